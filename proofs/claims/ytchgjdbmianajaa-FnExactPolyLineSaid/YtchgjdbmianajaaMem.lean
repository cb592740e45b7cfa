/-
  How the model's reader of a code draws: what each call of its 'pick' answers lies from 0 on and below its bound, it writes nothing but the reader's own place, and the code itself stays as it was.
-/
import Derived.Test.YtchgjdbmianajaaRows
import Derived.WalkKit
import Derived.ProofKit
import Derived.Lib.Hide
import Derived.Outline
import Derived.Deep.QuietTactic
import Derived.BigQuiet
import Derived.WalkSmall
import Derived.Laws.Rows
import Derived.OpenShut
import Derived.Test.YtchgjdbmianajaaAlg
import Derived.Handy
import Derived.Deep.OwnRows
import Derived.Deep.Onto
import Derived.LoopTactic
import Derived.OwnWalk
import Derived.Deep.RegionWith
import Derived.Deep.RegionHeld3
import Derived.Deep.RegionLaw
import Derived.Deep.AppendLies
import Derived.Lib.SmallJoins
namespace Go.Proofs.Ytchgjdbmianajaa
namespace Draw
open Go.RowKit
set_option linter.unusedVariables false

/-- A code's bytes lie below 'base', or there are none. -/
def Bytes (w : World) (base : Nat) (a : Option Addr) (len : Nat) : Prop :=
  len = 0 ∨ ∃ b off, a = some ⟨b, off, none⟩ ∧ b < base ∧ ∀ j, j < len → ∃ n : Int, 0 ≤ n ∧ n ≤ 255 ∧ w.cell? ⟨b, off + j, none⟩ = some (.int .u8 n)

/-- Block B is the reader: its bytes, and its place. -/
structure Rd (w : World) (base B : Nat) (a : Option Addr) (len cap p : Nat) : Prop where
  from_ : base ≤ B
  block : w.heap[B]? = some (.cells #[.slice a len cap, .int .i64 (p : Int)] 72 (0, 0))
  bytes : Bytes w base a len
  few : len ≤ 2000

theorem Bytes.kept {w w' : World} {base : Nat} {a : Option Addr} {len : Nat} (h : Bytes w base a len) (hb : ∀ k, k < base → w'.heap[k]? = w.heap[k]?) : Bytes w' base a len := by
  rcases h with h | ⟨b, off, ha, hl, hc⟩
  · exact .inl h
  · refine .inr ⟨b, off, ha, hl, fun j hj => ?_⟩
    obtain ⟨n, n0, n1, hn⟩ := hc j hj
    exact ⟨n, n0, n1, by rw [World.cell?_of_block (w := w) (w' := w') (hb b hl)]; exact hn⟩
theorem Rd.kept {w w' : World} {base B : Nat} {a : Option Addr} {len cap p : Nat} (h : Rd w base B a len cap p) (hb : ∀ k, k < base → w'.heap[k]? = w.heap[k]?) (hB : w'.heap[B]? = w.heap[B]?) : Rd w' base B a len cap p :=
  ⟨h.from_, hB.trans h.block, h.bytes.kept hb, h.few⟩
theorem Rd.lt {w : World} {base B : Nat} {a : Option Addr} {len cap p : Nat} (h : Rd w base B a len cap p) : B < w.heap.size := by
  rcases Nat.lt_or_ge B w.heap.size with h' | h'
  · exact h'
  · have := h.block; simp [Array.getElem?_eq_none h'] at this
theorem Rd.cell0 {w : World} {base B : Nat} {a : Option Addr} {len cap p : Nat} (h : Rd w base B a len cap p) : w.cell? ⟨B, 0, none⟩ = some (.slice a len cap) := by simp [World.cell?, h.block]
theorem Rd.cell1 {w : World} {base B : Nat} {a : Option Addr} {len cap p : Nat} (h : Rd w base B a len cap p) : w.cell? ⟨B, 1, none⟩ = some (.int .i64 (p : Int)) := by simp [World.cell?, h.block]
theorem Rd.free1 {w : World} {base B : Nat} {a : Option Addr} {len cap p : Nat} (h : Rd w base B a len cap p) : w.frozen? ⟨B, 1, none⟩ = false := by simp [World.frozen?, h.block]
/-- Behind a pick the reader is one place on. -/
theorem Rd.next {w : World} {base B : Nat} {a : Option Addr} {len cap p : Nat} (h : Rd w base B a len cap p) (nq : Nat) : Rd ((w.setCell ⟨B, 1, none⟩ (.int .i64 ((p : Int) + 1))).drewN nq) base B a len cap (p + 1) := by
  refine ⟨h.from_, ?_, h.bytes.kept fun k hk => ?_, h.few⟩
  · show (w.setCell ⟨B, 1, none⟩ _).heap[B]? = _
    rw [heap_setCell_same w B 1 _ _ _ h.block]
    rfl
  · show (w.setCell ⟨B, 1, none⟩ _).heap[k]? = _
    exact heap_setCell_other w _ _ _ (by have := h.from_; show k ≠ B; omega)

/-- What a pick leaves: a number from 0 on below n; the reader one place on; all else as it was. -/
def Picked (w : World) (base B : Nat) (a : Option Addr) (len cap p : Nat) (n : Int) (e : Ending) (w' : World) : Prop :=
  ∃ x : Int, 0 ≤ x ∧ x < n ∧ e = .returned (.int .i64 x) ∧ Rd w' base B a len cap (p + 1) ∧ w.grownBy w' (some B) ∧ w'.heap.size = w.heap.size

theorem grown_next (w : World) (B : Nat) (v : Value) (nq : Nat) : w.grownBy ((w.setCell ⟨B, 1, none⟩ v).drewN nq) (some B) :=
  ⟨rfl, rfl, rfl, by show _ ≤ (w.setCell ⟨B, 1, none⟩ v).heap.size; simp [World.setCell], fun k hk hne => heap_setCell_other w _ _ _ (by show k ≠ B; intro e; exact hne (by rw [e]))⟩
theorem size_next (w : World) (B : Nat) (v : Value) (nq : Nat) : ((w.setCell ⟨B, 1, none⟩ v).drewN nq).heap.size = w.heap.size := by
  show (w.setCell ⟨B, 1, none⟩ v).heap.size = _; simp [World.setCell]
theorem picked_mk {w : World} {base B : Nat} {a : Option Addr} {len cap p : Nat} {n : Int} (h : Rd w base B a len cap p) {x : Int} (x0 : 0 ≤ x) (x1 : x < n) (nq : Nat) :
    Picked w base B a len cap p n (.returned (.int .i64 x)) ((w.setCell ⟨B, 1, none⟩ (.int .i64 ((p : Int) + 1))).drewN nq) :=
  ⟨x, x0, x1, rfl, h.next nq, grown_next _ _ _ _, size_next _ _ _ _⟩

theorem xor_i64 (a b : Nat) (ha : a < 9223372036854775808) (hb : b < 9223372036854775808) : bits .xor .i64 (a : Int) (b : Int) = ((a ^^^ b : Nat) : Int) := by
  have hx : a ^^^ b < 2 ^ 63 := Nat.xor_lt_two_pow (by omega) (by omega)
  have h1 : (BitVec.ofInt 64 (a : Int)).toNat = a := by
    rw [BitVec.ofInt_natCast, BitVec.toNat_ofNat]; exact Nat.mod_eq_of_lt (by omega)
  have h2 : (BitVec.ofInt 64 (b : Int)).toNat = b := by
    rw [BitVec.ofInt_natCast, BitVec.toNat_ofNat]; exact Nat.mod_eq_of_lt (by omega)
  show IntKind.i64.wrap ((BitVec.ofInt 64 (a : Int) ^^^ BitVec.ofInt 64 (b : Int)).toNat : Int) = _
  rw [BitVec.toNat_xor, h1, h2]
  simp [IntKind.wrap, IntKind.bits, IntKind.signed]
  omega
theorem mix_range (x y n : Int) (x0 : 0 ≤ x) (x1 : x ≤ 1000000000000) (y0 : 0 ≤ y) (y1 : y ≤ 1000000000000) (hn : 1 ≤ n) : 0 ≤ (bits .xor .i64 x y).tmod n ∧ (bits .xor .i64 x y).tmod n < n := by
  obtain ⟨a, rfl⟩ := Int.eq_ofNat_of_zero_le x0
  obtain ⟨b, rfl⟩ := Int.eq_ofNat_of_zero_le y0
  rw [xor_i64 a b (by omega) (by omega)]
  exact ⟨Int.tmod_nonneg _ (by omega), Int.tmod_lt_of_pos _ (by omega)⟩

theorem pick_none (w : World) (base B : Nat) (a : Option Addr) (cap p : Nat) (n : Int) (h : Rd w base B a 0 cap p) (hp : p ≤ 1000000000) (hn : 1 ≤ n) :
    Calls Try.prog 39 #[.pointer (some ⟨B, 0, none⟩), .int .i64 n] w (Picked w base B a 0 cap p n) := by
  have c0 := h.cell0
  have c1 := h.cell1
  have f1 := h.free1
  have HR := Lib.hid h; clear h
  go_enter Try.func39, Try.ntmps39
  go_wp2
  go_ret
  exact picked_mk HR.out (by omega) (by omega) 0

theorem pick_in (w : World) (base B : Nat) (a : Option Addr) (len cap p : Nat) (n : Int) (h : Rd w base B a len cap p) (hl : p < len) (hn : 1 ≤ n) :
    Calls Try.prog 39 #[.pointer (some ⟨B, 0, none⟩), .int .i64 n] w (Picked w base B a len cap p n) := by
  have c0 := h.cell0
  have c1 := h.cell1
  have f1 := h.free1
  have hfew := h.few
  rcases h.bytes with h0 | ⟨b, off, rfl, hb, hc⟩
  · omega
  obtain ⟨u, u0, u1, hu⟩ := hc p hl
  have hbB := h.from_
  have hu' : ∀ v, (w.setCell ⟨B, 1, none⟩ v).cell? ⟨b, off + p, none⟩ = some (.int .u8 u) := fun v => by
    rw [World.cell?_setCell_other w _ _ v (by intro e; injection e with e1; omega)]; exact hu
  have HR := Lib.hid h; clear h hc hu
  have hlen : ((len : Int) == 0) = false := by simp; omega
  go_enter Try.func39, Try.ntmps39
  go_wp2
  go_ret
  exact picked_mk HR.out (Int.emod_nonneg _ (by omega)) (Int.emod_lt_of_pos _ (by omega)) 0

theorem pick_past (w : World) (base B : Nat) (a : Option Addr) (len cap p : Nat) (n : Int) (h : Rd w base B a len cap p) (h1 : 1 ≤ len) (hl : len ≤ p) (hp : p ≤ 1000000000) (hn : 1 ≤ n) :
    Calls Try.prog 39 #[.pointer (some ⟨B, 0, none⟩), .int .i64 n] w (Picked w base B a len cap p n) := by
  have c0 := h.cell0
  have c1 := h.cell1
  have f1 := h.free1
  have hfew := h.few
  rcases h.bytes with h0 | ⟨b, off, rfl, hb, hc⟩
  · omega
  obtain ⟨u, u0, u1, hu⟩ := hc (p % len) (Nat.mod_lt _ (by omega))
  obtain ⟨v, v0, v1, hv⟩ := hc ((p * 7 + 3) % len) (Nat.mod_lt _ (by omega))
  have hbB := h.from_
  have hu' : ∀ x, (w.setCell ⟨B, 1, none⟩ x).cell? ⟨b, off + p % len, none⟩ = some (.int .u8 u) := fun x => by
    rw [World.cell?_setCell_other w _ _ x (by intro e; injection e with e1; omega)]; exact hu
  have hv' : ∀ x, (w.setCell ⟨B, 1, none⟩ x).cell? ⟨b, off + (p * 7 + 3) % len, none⟩ = some (.int .u8 v) := fun x => by
    rw [World.cell?_setCell_other w _ _ x (by intro e; injection e with e1; omega)]; exact hv
  have HR := Lib.hid h; clear h hc hu hv
  have hlen : ((len : Int) == 0) = false := by simp; omega
  have hlt : ¬ (p : Int) < (len : Int) := by omega
  have L0 : (0 : Int) < (len : Int) := by omega
  have A0 : 0 ≤ (p : Int) % (len : Int) := Int.emod_nonneg _ (by omega)
  have A1 : (p : Int) % (len : Int) < (len : Int) := Int.emod_lt_of_pos _ L0
  have A2 : ((p : Int) % (len : Int)).toNat = p % len := by omega
  have C0 : 0 ≤ ((p : Int) * 7 + 3) % (len : Int) := Int.emod_nonneg _ (by omega)
  have C1 : ((p : Int) * 7 + 3) % (len : Int) < (len : Int) := Int.emod_lt_of_pos _ L0
  have C2 : (((p : Int) * 7 + 3) % (len : Int)).toNat = (p * 7 + 3) % len := by
    rw [show ((p : Int) * 7 + 3) = ((p * 7 + 3 : Nat) : Int) from by omega, ← Int.natCast_emod]; exact Int.toNat_natCast _
  have D0 : 0 ≤ (p : Int) / (len : Int) := Int.ediv_nonneg (by omega) (by omega)
  have D1 : (p : Int) / (len : Int) ≤ (p : Int) := Int.ediv_le_self _ (by omega)
  go_enter Try.func39, Try.ntmps39
  go_wp2
  go_quiet (fail)
  go_wp2
  go_ret
  obtain ⟨m0, m1⟩ := mix_range (u * 131 + v * 1117 + ↑p * 29 + ↑p / ↑len * 53) ((u * 131 + v * 1117 + ↑p * 29 + ↑p / ↑len * 53) / 64) n (by omega) (by omega) (by omega) (by omega) hn
  exact picked_mk HR.out m0 m1 _

theorem pick_any (w : World) (base B : Nat) (a : Option Addr) (len cap p : Nat) (n : Int) (h : Rd w base B a len cap p) (hp : p ≤ 1000000000) (hn : 1 ≤ n) :
    Calls Try.prog 39 #[.pointer (some ⟨B, 0, none⟩), .int .i64 n] w (Picked w base B a len cap p n) := by
  by_cases h1 : len = 0
  · subst h1; exact pick_none w base B a cap p n h hp hn
  · by_cases h2 : p < len
    · exact pick_in w base B a len cap p n h h2 hn
    · exact pick_past w base B a len cap p n h (by omega) (by omega) hp hn
theorem Bytes.less {w : World} {base : Nat} {a : Option Addr} {len len' : Nat} (h : Bytes w base a len) (hl : len' ≤ len) : Bytes w base a len' := by
  rcases h with h | ⟨b, off, ha, hb, hc⟩
  · exact .inl (by omega)
  · exact .inr ⟨b, off, ha, hb, fun j hj => hc j (by omega)⟩

/-- What opening a code leaves: a new block, the reader, at place 0. -/
def Opened (w : World) (base : Nat) (a : Option Addr) (e : Ending) (w' : World) : Prop :=
  e = .returned (.pointer (some ⟨w.heap.size, 0, none⟩)) ∧ w.grownBy w' none ∧ w'.heap.size = w.heap.size + 1 ∧ ∃ len cap, Rd w' base w.heap.size a len cap 0

theorem opened_mk {w : World} {base : Nat} {a : Option Addr} {len cap : Nat} (hB : Bytes w base a len) (hb : base ≤ w.heap.size) (hl : len ≤ 2000) :
    Opened w base a (.returned (.pointer (some ⟨w.heap.size, 0, none⟩))) (w.alloc (.cells #[.slice a len cap, .int .i64 0] 72 (0, 0))) := by
  refine ⟨rfl, ⟨rfl, rfl, rfl, by simp, fun k hk _ => Below.heap_alloc _ _ _ hk⟩, by simp, len, cap, hb, ?_, hB.kept fun k hk => Below.heap_alloc _ _ _ (by omega), hl⟩
  show (w.heap.push _)[w.heap.size]? = _
  simp

theorem open_any (w : World) (base : Nat) (a : Option Addr) (len cap : Nat) (hB : Bytes w base a len) (hb : base ≤ w.heap.size) (hc : len ≤ cap) (hm : cap ≤ maxLen) :
    Calls Try.prog 30 #[.slice a len cap] w (Opened w base a) := by
  unfold maxLen at hm
  have HB := Lib.hid hB
  by_cases hl : len ≤ 2000
  · clear hB
    have hl' : ¬ (2000 : Int) < (len : Int) := by omega
    go_enter Try.func30, Try.ntmps30
    go_wp2
    go_ret
    exact opened_mk HB.out hb hl
  · rcases hB with h | ⟨b, off, rfl, hbb, hcc⟩
    · omega
    clear hcc
    have hl' : (2000 : Int) < (len : Int) := by omega
    go_enter Try.func30, Try.ntmps30
    go_wp2
    go_ret
    exact opened_mk (HB.out.less (by omega)) hb (by omega)

/-- A code that came in: its bytes lie below the heap's size. -/
theorem bytes_of {w : World} {a : Option Addr} {len cap : Nat} {zs : List Int}
    (h : (a = none ∧ len = 0 ∧ cap = 0 ∧ zs = []) ∨ ∃ x, a = some x ∧ len ≤ cap ∧ cap ≤ maxLen ∧ zs.length = cap ∧ (∀ i, i < zs.length → w.cell? (x.add i) = some (.int .u8 (zs.getD i 0))) ∧ ∀ n ∈ zs, (Lit.int .u8 n).wf = true) :
    Bytes w w.heap.size a len ∧ len ≤ cap ∧ cap ≤ maxLen := by
  rcases h with ⟨rfl, rfl, rfl, rfl⟩ | ⟨x, rfl, hl, hm, hz, hc, hw⟩
  · exact ⟨.inl rfl, Nat.le_refl _, Nat.zero_le _⟩
  · refine ⟨?_, hl, hm⟩
    by_cases h0 : len = 0
    · exact .inl h0
    · obtain ⟨b, off, rfl, hcc⟩ := ints_at hc (by omega)
      refine .inr ⟨b, off, rfl, ?_, fun j hj => ⟨zs.getD j 0, ?_, ?_, hcc j (by omega)⟩⟩
      · have h1 := hcc 0 (by omega)
        rcases Nat.lt_or_ge b w.heap.size with h' | h'
        · exact h'
        · simp [World.cell?, Array.getElem?_eq_none h'] at h1
      · have := range_u8 hw j
        simpa [List.getD_eq_getElem?_getD] using this.1
      · have := range_u8 hw j
        simpa [List.getD_eq_getElem?_getD] using this.2
theorem below_of {w w' : World} (h : w.grownBy w' none) : Below w.heap.size w w' :=
  ⟨h.os, h.tape, h.output, h.size, fun k hk => h.block k hk (by simp)⟩

end Draw
end Go.Proofs.Ytchgjdbmianajaa
/-
  How the model draws a number of the field: it lies from -1 to 23, and all that was there stays, but the reader's own place.
-/

namespace Go.Proofs.Ytchgjdbmianajaa
namespace Draw
open Go.RowKit
set_option linter.unusedVariables false

theorem grown_trans {a b c : World} {r : Option Nat} (h : a.grownBy b r) (k : b.grownBy c r) : a.grownBy c r :=
  ⟨k.os.trans h.os, k.tape.trans h.tape, k.output.trans h.output, Nat.le_trans h.size k.size, fun i hi hne => (k.block i (Nat.lt_of_lt_of_le hi h.size) hne).trans (h.block i hi hne)⟩
theorem grown_refl (a : World) (r : Option Nat) : a.grownBy a r := ⟨rfl, rfl, rfl, Nat.le_refl _, fun _ _ _ => rfl⟩
theorem grown_some {a b : World} {r : Option Nat} (h : a.grownBy b none) : a.grownBy b r :=
  ⟨h.os, h.tape, h.output, h.size, fun i hi _ => h.block i hi (by simp)⟩
theorem grown_alloc (w : World) (o : Obj) (r : Option Nat) : w.grownBy (w.alloc o) r :=
  ⟨rfl, rfl, rfl, by simp, fun k hk _ => Below.heap_alloc _ _ _ hk⟩
theorem Rd.alloc {w : World} {base B : Nat} {a : Option Addr} {len cap p : Nat} (h : Rd w base B a len cap p) (o : Obj) : Rd (w.alloc o) base B a len cap p :=
  h.kept (fun k hk => Below.heap_alloc _ _ _ (by have := h.lt; have := h.from_; omega)) (Below.heap_alloc _ _ _ h.lt)

/-- What a draw leaves: a number from lo to hi; the reader at most k places on; all else as it was. -/
def Drawn (w : World) (base B : Nat) (a : Option Addr) (len cap p k : Nat) (lo hi : Int) (e : Ending) (w' : World) : Prop :=
  ∃ x : Int, lo ≤ x ∧ x ≤ hi ∧ e = .returned (.int .i64 x) ∧ w.grownBy w' (some B) ∧ ∃ p', p ≤ p' ∧ p' ≤ p + k ∧ Rd w' base B a len cap p'

theorem two_cells {w w' : World} {B : Nat} {x y : Value} {T : TypeId} (hg : (w.alloc (.cells #[x, y] T (0, 0))).grownBy w' (some B)) (hB : B < w.heap.size) :
    w'.cell? ⟨w.heap.size, 0, none⟩ = some x ∧ w'.cell? ⟨w.heap.size, 1, none⟩ = some y := by
  have hb : w'.heap[w.heap.size]? = (w.alloc (.cells #[x, y] T (0, 0))).heap[w.heap.size]? := hg.block _ (by simp) (by intro e; injection e with e; omega)
  have hn : (w.alloc (.cells #[x, y] T (0, 0))).heap[w.heap.size]? = some (.cells #[x, y] T (0, 0)) := by
    show (w.heap.push _)[w.heap.size]? = _
    simp
  rw [hn] at hb
  exact ⟨by simp [World.cell?, hb], by simp [World.cell?, hb]⟩

set_option maxHeartbeats 1000000 in
theorem num_any (w : World) (base B : Nat) (a : Option Addr) (len cap p : Nat) (h : Rd w base B a len cap p) (hp : p ≤ 100000000) :
    Calls Try.prog 32 #[.pointer (some ⟨B, 0, none⟩)] w (Drawn w base B a len cap p 3 (-1) 23) := by
  go_enter Try.func32, Try.ntmps32
  go_wp2_with fail
  refine (pick_any _ base B a len cap p 10 h (by omega) (by omega)).mono ?_
  rintro e w1 ⟨x, x0, x1, rfl, hr1, hg1, hs1⟩
  clear hs1
  rcases (by omega : x = 0 ∨ x = 1 ∨ x = 2 ∨ 3 ≤ x) with rfl | rfl | rfl | hx
  · go_wp2_with fail
    go_ret
    exact ⟨0, by omega, by omega, rfl, hg1, p + 1, by omega, by omega, hr1⟩
  · go_wp2_with fail
    refine (pick_any _ base B a len cap (p + 1) 2 (hr1.alloc _) (by omega) (by omega)).mono ?_
    rintro e w2 ⟨y, y0, y1, rfl, hr2, hg2, hs2⟩
    obtain ⟨k0, k1⟩ := two_cells hg2 hr1.lt
    rcases (by omega : y = 0 ∨ y = 1) with rfl | rfl
    all_goals
      have HR := Lib.hid hr2; have HG := Lib.hid hg2; have HS := Lib.hid hs2; clear hr2 hg2 hs2
      go_wp2_with fail
      go_ret
      exact ⟨_, by omega, by omega, rfl, grown_trans hg1 (grown_trans (grown_alloc _ _ _) HG.out), p + 2, by omega, by omega, HR.out⟩
  · go_wp2_with fail
    refine (pick_any _ base B a len cap (p + 1) 5 hr1 (by omega) (by omega)).mono ?_
    rintro e w2 ⟨z, z0, z1, rfl, hr2, hg2, hs2⟩
    clear hs2
    rcases (by omega : z = 0 ∨ 1 ≤ z) with rfl | hz
    · go_wp2_with fail
      refine (pick_any _ base B a len cap (p + 1 + 1) 2 (hr2.alloc _) (by omega) (by omega)).mono ?_
      rintro e w3 ⟨y, y0, y1, rfl, hr3, hg3, hs3⟩
      clear hs3
      obtain ⟨k0, k1⟩ := two_cells hg3 hr2.lt
      rcases (by omega : y = 0 ∨ y = 1) with rfl | rfl
      all_goals
        have HR := Lib.hid hr3; have HG := Lib.hid hg3; clear hr3 hg3
        go_wp2_with fail
        go_ret
        exact ⟨_, by omega, by omega, rfl, grown_trans hg1 (grown_trans hg2 (grown_trans (grown_alloc _ _ _) HG.out)), p + 3, by omega, by omega, HR.out⟩
    · have hz' : (z == 0) = false := by simp; omega
      go_wp2_with fail
      refine (pick_any _ base B a len cap (p + 1 + 1) 23 hr2 (by omega) (by omega)).mono ?_
      rintro e w3 ⟨y, y0, y1, rfl, hr3, hg3, hs3⟩
      clear hs3
      have HR := Lib.hid hr3; have HG := Lib.hid hg3; clear hr3 hg3
      go_wp2_with fail
      go_ret
      exact ⟨_, by omega, by omega, rfl, grown_trans hg1 (grown_trans hg2 HG.out), p + 3, by omega, by omega, HR.out⟩
  · have h0 : (x == 0) = false := by simp; omega
    have h1 : (x == 1) = false := by simp; omega
    have h2 : (x == 2) = false := by simp; omega
    go_wp2_with fail
    refine (pick_any _ base B a len cap (p + 1) 23 hr1 (by omega) (by omega)).mono ?_
    rintro e w3 ⟨y, y0, y1, rfl, hr3, hg3, hs3⟩
    clear hs3
    have HR := Lib.hid hr3; have HG := Lib.hid hg3; clear hr3 hg3
    go_wp2_with fail
    go_ret
    exact ⟨_, by omega, by omega, rfl, grown_trans hg1 HG.out, p + 2, by omega, by omega, HR.out⟩

/-- What drawing from a code leaves: a new block or more; all that was there as it was. -/
def Got (w : World) (lo hi : Int) (e : Ending) (w' : World) : Prop :=
  ∃ x : Int, lo ≤ x ∧ x ≤ hi ∧ e = .returned (.int .i64 x) ∧ w.grownBy w' none
def Got2 (w : World) (lo hi : Int) (e : Ending) (w' : World) : Prop :=
  ∃ x y : Int, lo ≤ x ∧ x ≤ hi ∧ lo ≤ y ∧ y ≤ hi ∧ e = .returned (.tuple #[.int .i64 x, .int .i64 y]) ∧ w.grownBy w' none

/-- Behind the reader's block nothing that was there has turned. -/
theorem grown_old {a b c : World} (h : a.grownBy b none) (k : b.grownBy c (some a.heap.size)) : a.grownBy c none :=
  ⟨k.os.trans h.os, k.tape.trans h.tape, k.output.trans h.output, Nat.le_trans h.size k.size,
    fun i hi _ => (k.block i (Nat.lt_of_lt_of_le hi h.size) (by intro e; injection e with e; omega)).trans (h.block i hi (by simp))⟩

end Draw
end Go.Proofs.Ytchgjdbmianajaa
/-
  Small words that the walks of the laws share.
-/

namespace Go.Proofs.Ytchgjdbmianajaa
namespace Run
open Go.RowKit Alg
set_option linter.unusedVariables false

/-- The law's answer: true, and nothing that was there has turned. -/
def Yes (w : World) (e : Ending) (w' : World) : Prop := e = .returned (.bool true) ∧ Below w.heap.size w w'
theorem fok_cases (a : Int) : fok a = true ∨ fok a = false := by cases fok a <;> simp
theorem beq_t {a b : Int} (h : a = b) : (a == b) = true := by simpa using h
theorem beq_f {a b : Int} (h : ¬ a = b) : (a == b) = false := by simpa using h
theorem bne_t {a b : Int} (h : ¬ a = b) : (a != b) = true := by simpa using h
theorem bne_f {a b : Int} (h : a = b) : (a != b) = false := by simpa using h
end Run
end Go.Proofs.Ytchgjdbmianajaa
/-
  What each function on the numbers below 23 answers, the program's and the model's, at every argument: a contract a function.
-/

namespace Go.Proofs.Ytchgjdbmianajaa
namespace Con
open Go.RowKit Alg
set_option linter.unusedVariables false

theorem iok_yes (n : Int) (w : World) (h : fok n = true) : Calls Try.prog 33 #[.int .i64 n] w fun e w' => e = .returned (.bool true) ∧ w = w' := by
  obtain ⟨h0, h1⟩ := fok_iff.1 h
  clear h
  go_enter Try.func33, Try.ntmps33
  go_wp2
  go_ret
  exact ⟨rfl, rfl⟩
theorem iok_no (n : Int) (w : World) (h : fok n = false) : Calls Try.prog 33 #[.int .i64 n] w fun e w' => e = .returned (.bool false) ∧ w = w' := by
  rcases fok_not.1 h with h0 | h0 <;> clear h
  · have h1 : ¬ 0 ≤ n := by omega
    go_enter Try.func33, Try.ntmps33
    go_wp2
    go_ret
    exact ⟨rfl, rfl⟩
  · have h1 : 0 ≤ n := by omega
    have h2 : ¬ n < 23 := by omega
    go_enter Try.func33, Try.ntmps33
    go_wp2
    go_ret
    exact ⟨rfl, rfl⟩
theorem sok_yes (n : Int) (w : World) (h : fok n = true) : Calls Try.prog 36 #[.int .i64 n] w fun e w' => e = .returned (.bool true) ∧ w = w' := by
  obtain ⟨h0, h1⟩ := fok_iff.1 h
  have h2 : n ≤ 22 := by omega
  clear h
  go_enter Try.func36, Try.ntmps36
  go_wp2
  go_ret
  exact ⟨rfl, rfl⟩
theorem sok_no (n : Int) (w : World) (h : fok n = false) : Calls Try.prog 36 #[.int .i64 n] w fun e w' => e = .returned (.bool false) ∧ w = w' := by
  rcases fok_not.1 h with h0 | h0 <;> clear h
  · have h1 : ¬ 0 ≤ n := by omega
    go_enter Try.func36, Try.ntmps36
    go_wp2
    go_ret
    exact ⟨rfl, rfl⟩
  · have h1 : 0 ≤ n := by omega
    have h2 : ¬ n ≤ 22 := by omega
    go_enter Try.func36, Try.ntmps36
    go_wp2
    go_ret
    exact ⟨rfl, rfl⟩
theorem isum (a b : Int) (w : World) : Calls Try.prog 14 #[.int .i64 a, .int .i64 b] w fun e w' => e = .returned (.int .i64 (sumF a b)) ∧ w = w' := by
  cases ha : fok a with
  | false =>
    rw [sumF_out (.inl ha)]
    go_enter Try.func14, Try.ntmps14
    go_wp2_with (go_at_call 33; refine (iok_no _ _ (by assumption)).mono ?_; rintro e w' ⟨rfl, rfl⟩)
    go_ret
    exact ⟨rfl, rfl⟩
  | true =>
    cases hb : fok b with
    | false =>
      rw [sumF_out (.inr hb)]
      go_enter Try.func14, Try.ntmps14
      go_wp2_with (first
        | (go_at_call 33; refine (iok_yes _ _ (by assumption)).mono ?_; rintro e w' ⟨rfl, rfl⟩)
        | (go_at_call 33; refine (iok_no _ _ (by assumption)).mono ?_; rintro e w' ⟨rfl, rfl⟩))
      go_ret
      exact ⟨rfl, rfl⟩
    | true =>
      rw [sumF_in ha hb]
      obtain ⟨a0, a1⟩ := fok_iff.1 ha
      obtain ⟨b0, b1⟩ := fok_iff.1 hb
      go_enter Try.func14, Try.ntmps14
      go_wp2_with (first
        | (go_at_call 33; refine (iok_yes _ _ (by assumption)).mono ?_; rintro e w' ⟨rfl, rfl⟩)
        | (go_at_call 38; go_in))
      go_ret
      exact ⟨rfl, rfl⟩
theorem imul (a b : Int) (w : World) : Calls Try.prog 22 #[.int .i64 a, .int .i64 b] w fun e w' => e = .returned (.int .i64 (mulF a b)) ∧ w = w' := by
  cases ha : fok a with
  | false =>
    rw [mulF_out (.inl ha)]
    go_enter Try.func22, Try.ntmps22
    go_wp2_with (go_at_call 33; refine (iok_no _ _ (by assumption)).mono ?_; rintro e w' ⟨rfl, rfl⟩)
    go_ret
    exact ⟨rfl, rfl⟩
  | true =>
    cases hb : fok b with
    | false =>
      rw [mulF_out (.inr hb)]
      go_enter Try.func22, Try.ntmps22
      go_wp2_with (first
        | (go_at_call 33; refine (iok_yes _ _ (by assumption)).mono ?_; rintro e w' ⟨rfl, rfl⟩)
        | (go_at_call 33; refine (iok_no _ _ (by assumption)).mono ?_; rintro e w' ⟨rfl, rfl⟩))
      go_ret
      exact ⟨rfl, rfl⟩
    | true =>
      rw [mulF_in ha hb]
      obtain ⟨a0, a1⟩ := fok_iff.1 ha
      obtain ⟨b0, b1⟩ := fok_iff.1 hb
      have hm0 : 0 ≤ a * b := Int.mul_nonneg a0 b0
      have hm1 : a * b ≤ 22 * 22 := Int.mul_le_mul (by omega) (by omega) b0 (by decide)
      go_enter Try.func22, Try.ntmps22
      go_wp2_with (first
        | (go_at_call 33; refine (iok_yes _ _ (by assumption)).mono ?_; rintro e w' ⟨rfl, rfl⟩)
        | (go_at_call 47; go_in))
      go_ret
      exact ⟨rfl, rfl⟩
theorem ssum (a b : Int) (w : World) : Calls Try.prog 72 #[.int .i64 a, .int .i64 b] w fun e w' => e = .returned (.int .i64 (sumF a b)) ∧ w = w' := by
  cases ha : fok a with
  | false =>
    rw [sumF_out (.inl ha)]
    go_enter Try.func72, Try.ntmps72
    go_wp2_with (go_at_call 36; refine (sok_no _ _ (by assumption)).mono ?_; rintro e w' ⟨rfl, rfl⟩)
    go_ret
    exact ⟨rfl, rfl⟩
  | true =>
    cases hb : fok b with
    | false =>
      rw [sumF_out (.inr hb)]
      go_enter Try.func72, Try.ntmps72
      go_wp2_with (first
        | (go_at_call 36; refine (sok_yes _ _ (by assumption)).mono ?_; rintro e w' ⟨rfl, rfl⟩)
        | (go_at_call 36; refine (sok_no _ _ (by assumption)).mono ?_; rintro e w' ⟨rfl, rfl⟩))
      go_ret
      exact ⟨rfl, rfl⟩
    | true =>
      rw [sumF_in ha hb]
      obtain ⟨a0, a1⟩ := fok_iff.1 ha
      obtain ⟨b0, b1⟩ := fok_iff.1 hb
      go_enter Try.func72, Try.ntmps72
      go_wp2_with (go_at_call 36; refine (sok_yes _ _ (by assumption)).mono ?_; rintro e w' ⟨rfl, rfl⟩)
      go_ret
      exact ⟨rfl, rfl⟩
theorem sdif (a b : Int) (w : World) : Calls Try.prog 55 #[.int .i64 a, .int .i64 b] w fun e w' => e = .returned (.int .i64 (difF a b)) ∧ w = w' := by
  cases ha : fok a with
  | false =>
    rw [difF_out (.inl ha)]
    go_enter Try.func55, Try.ntmps55
    go_wp2_with (go_at_call 36; refine (sok_no _ _ (by assumption)).mono ?_; rintro e w' ⟨rfl, rfl⟩)
    go_ret
    exact ⟨rfl, rfl⟩
  | true =>
    cases hb : fok b with
    | false =>
      rw [difF_out (.inr hb)]
      go_enter Try.func55, Try.ntmps55
      go_wp2_with (first
        | (go_at_call 36; refine (sok_yes _ _ (by assumption)).mono ?_; rintro e w' ⟨rfl, rfl⟩)
        | (go_at_call 36; refine (sok_no _ _ (by assumption)).mono ?_; rintro e w' ⟨rfl, rfl⟩))
      go_ret
      exact ⟨rfl, rfl⟩
    | true =>
      rw [difF_in ha hb]
      obtain ⟨a0, a1⟩ := fok_iff.1 ha
      obtain ⟨b0, b1⟩ := fok_iff.1 hb
      go_enter Try.func55, Try.ntmps55
      go_wp2_with (go_at_call 36; refine (sok_yes _ _ (by assumption)).mono ?_; rintro e w' ⟨rfl, rfl⟩)
      go_ret
      exact ⟨rfl, rfl⟩
theorem smul (a b : Int) (w : World) : Calls Try.prog 54 #[.int .i64 a, .int .i64 b] w fun e w' => e = .returned (.int .i64 (mulF a b)) ∧ w = w' := by
  cases ha : fok a with
  | false =>
    rw [mulF_out (.inl ha)]
    go_enter Try.func54, Try.ntmps54
    go_wp2_with (go_at_call 36; refine (sok_no _ _ (by assumption)).mono ?_; rintro e w' ⟨rfl, rfl⟩)
    go_ret
    exact ⟨rfl, rfl⟩
  | true =>
    cases hb : fok b with
    | false =>
      rw [mulF_out (.inr hb)]
      go_enter Try.func54, Try.ntmps54
      go_wp2_with (first
        | (go_at_call 36; refine (sok_yes _ _ (by assumption)).mono ?_; rintro e w' ⟨rfl, rfl⟩)
        | (go_at_call 36; refine (sok_no _ _ (by assumption)).mono ?_; rintro e w' ⟨rfl, rfl⟩))
      go_ret
      exact ⟨rfl, rfl⟩
    | true =>
      rw [mulF_in ha hb]
      obtain ⟨a0, a1⟩ := fok_iff.1 ha
      obtain ⟨b0, b1⟩ := fok_iff.1 hb
      have hm0 : 0 ≤ a * b := Int.mul_nonneg a0 b0
      have hm1 : a * b ≤ 22 * 22 := Int.mul_le_mul (by omega) (by omega) b0 (by decide)
      go_enter Try.func54, Try.ntmps54
      go_wp2_with (go_at_call 36; refine (sok_yes _ _ (by assumption)).mono ?_; rintro e w' ⟨rfl, rfl⟩)
      go_ret
      exact ⟨rfl, rfl⟩

/-! The inverse: Euclid's rounds, and the model's search. -/
theorem ret_ib {x y : Int} {b : Bool} (h : x = y) : Ending.returned (.tuple #[.int .i64 x, .bool b]) = .returned (.tuple #[.int .i64 y, .bool b]) := by rw [h]
theorem ret_i {x y : Int} (h : x = y) : Ending.returned (.int .i64 x) = .returned (.int .i64 y) := by rw [h]
theorem euclid (a : Int) (w : World) (ha : fok a = true) (h : a ≠ 0) : Calls Try.prog 53 #[.int .i64 a] w fun e w' => e = .returned (.tuple #[.int .i64 (invF a), .bool true]) ∧ w = w' := by
  obtain ⟨a0, a1⟩ := fok_iff.1 ha
  have hz : (a == 0) = false := by simpa using h
  have HA := Lib.hid ha; clear ha
  have HZ := Lib.hid h; clear h
  go_enter Try.func53, Try.ntmps53
  go_wp2
  go_loop [4, 5, 6, 7] (fun r n f g => ∃ k : Nat, k < 23 ∧ r = .int .i64 (euc a k).1 ∧ n = .int .i64 (euc a k).2.1 ∧ f = .int .i64 (euc a k).2.2.1 ∧ g = .int .i64 (euc a k).2.2.2) (fun _ n _ _ => (intOf n).toNat)
  case atStart => exact ⟨0, by omega, rfl, rfl, rfl, rfl⟩
  case round =>
    obtain ⟨k, hk, rfl, rfl, rfl, rfl⟩ := hrel
    obtain ⟨r0, r1, n0, n1, f0, f1, g0, g1, hend, hgo⟩ := euc_fine HA.out HZ.out hk
    have HN := Lib.hid (@euc_next a k)
    generalize euc a k = s at *
    obtain ⟨r, n, f, g⟩ := s
    simp only at *
    by_cases hn : n = 0
    · subst hn
      have HE := Lib.hid (hend rfl)
      clear hend hgo
      by_cases hf : f < 0
      · go_wp2
        go_ret2
        exact ⟨ret_ib (x := f + 23) (by rw [← HE.out, fixUp, if_pos hf]), rfl⟩
      · go_wp2
        go_ret2
        exact ⟨ret_ib (x := f) (by rw [← HE.out, fixUp, if_neg (by omega)]), rfl⟩
    · obtain ⟨k1, m1, q1, q0, u0, u1, v0, v1⟩ := hgo hn
      have hz : (n != 0) = true := by simpa using hn
      have hp : 1 ≤ n := by omega
      have HT := Lib.hid (HN.out hn)
      rw [HT.out] at m1
      simp only [eucStep] at m1
      clear hend hgo HN
      go_wp2
      go_round
      case rel => exact ⟨k + 1, by omega, by rw [HT.out]; exact ⟨rfl, rfl, rfl, rfl⟩⟩
      case measure => simp [intOf]; omega
theorem search (a : Int) (w : World) (ha : fok a = true) (h : a ≠ 0) : Calls Try.prog 56 #[.int .i64 a] w fun e w' => e = .returned (.int .i64 (invF a)) ∧ w = w' := by
  obtain ⟨a0, a1⟩ := fok_iff.1 ha
  have HA := Lib.hid ha; clear ha
  have HZ := Lib.hid h; clear h
  obtain ⟨i0, i1⟩ := fok_iff.1 (invF_ok a)
  have i2 : 1 ≤ invF a := by have := inv_ne HA.out HZ.out; omega
  go_enter Try.func56, Try.ntmps56
  go_wp2
  go_loop [3] (fun n => ∃ k : Nat, 1 ≤ k ∧ (k : Int) ≤ invF a ∧ n = .int .i64 k) (fun n => 23 - (intOf n).toNat)
  case atStart => exact ⟨1, by omega, by omega, rfl⟩
  case round =>
    obtain ⟨k, k0, k1, rfl⟩ := hrel
    have u0 : 0 ≤ a * (k : Int) := Int.mul_nonneg a0 (by omega)
    have u1 : a * (k : Int) ≤ 22 * 22 := Int.mul_le_mul (by omega) (by omega) (by omega) (by decide)
    have hk := inv_only HA.out (fok_mk (n := (k : Int)) (by omega) (by omega)) HZ.out
    have hl : (k : Int) < 23 := by omega
    by_cases he : (k : Int) = invF a
    · have ht : (a * (k : Int) % 23 == 1) = true := by simpa using hk.2 he
      have HE := Lib.hid he
      clear he hk
      go_wp2
      go_ret
      exact ⟨ret_i HE.out, rfl⟩
    · have ht : (a * (k : Int) % 23 == 1) = false := by simpa using fun h => he (hk.1 h)
      have hlt : (k : Int) < invF a := by omega
      clear he hk
      go_wp2
      go_round
      case rel => exact ⟨k + 1, by omega, by omega, by go_num⟩
      case measure => simp [intOf]; omega
end Con
end Go.Proofs.Ytchgjdbmianajaa
/-
  What each function on the group answers, the program's and the model's, at every argument: a contract a function. The program's make memory (an array of squares): all that was there stays.
-/

namespace Go.Proofs.Ytchgjdbmianajaa
namespace Con
open Go.RowKit Alg
set_option linter.unusedVariables false

/-- One times another, in the group's modulus; as a function that the walk does not open. -/
def tm (a b : Int) : Int := a * b % 47
theorem tm_range (a b : Int) : 0 ≤ tm a b ∧ tm a b ≤ 46 := ⟨Int.emod_nonneg _ (by decide), by have := Int.emod_lt_of_pos (a * b) (show (0 : Int) < 47 by decide); unfold tm; omega⟩
/-- The repeated squares. -/
def sqs (a : Int) : Nat → Int
  | 0 => a
  | k + 1 => tm (sqs a k) (sqs a k)
theorem sqs_range {a : Int} (a0 : 0 ≤ a) (a1 : a ≤ 46) (k : Nat) : 0 ≤ sqs a k ∧ sqs a k ≤ 46 := by
  cases k with
  | zero => exact ⟨a0, a1⟩
  | succ k => exact tm_range _ _
/-- n without its last k bits. -/
def half (n : Int) : Nat → Int
  | 0 => n
  | 1 => n / 2
  | 2 => n / 4
  | 3 => n / 8
  | _ => n / 16
def lastBit (n : Int) : Bool := bits .and .i64 n 1 == 1
/-- The product behind k bits. -/
def pwb (a n : Int) : Nat → Int
  | 0 => 1
  | k + 1 => if lastBit (half n k) = true then tm (pwb a n k) (sqs a k) else pwb a n k
theorem pwb_range (a n : Int) (k : Nat) : 0 ≤ pwb a n k ∧ pwb a n k ≤ 46 := by
  induction k with
  | zero => exact ⟨Int.zero_le_ofNat 1, (by decide : (1 : Int) ≤ 46)⟩
  | succ k ih => unfold pwb; split; exact tm_range _ _; exact ih
theorem pwb_pw {a n : Int} (a0 : 0 ≤ a) (a1 : a ≤ 46) (n0 : 0 ≤ n) (n1 : n ≤ 23) : pwb a n 5 = pw a n.toNat := by
  have h : ∀ n : Fin 24, ∀ a : Fin 47, pwb (a.val : Int) (n.val : Int) 5 = pw (a.val : Int) n.val := by decide +kernel
  have := h ⟨n.toNat, by omega⟩ ⟨a.toNat, by omega⟩
  simpa [Int.toNat_of_nonneg a0, Int.toNat_of_nonneg n0] using this
theorem pwb_yes {a n : Int} {k : Nat} {m : Int} (e : half n k = m) (h : (bits .and .i64 m 1 == 1) = true) : pwb a n (k + 1) = tm (pwb a n k) (sqs a k) := by
  subst e; exact if_pos h
theorem pwb_no {a n : Int} {k : Nat} {m : Int} (e : half n k = m) (h : (bits .and .i64 m 1 == 1) = false) : pwb a n (k + 1) = pwb a n k := by
  subst e; exact if_neg (by unfold lastBit; rw [h]; decide)
/-! GroupOk: out of the range no power is taken. -/
theorem ret_b {x y : Bool} (h : x = y) : Ending.returned (.bool x) = .returned (.bool y) := by rw [h]
/-! The model's. -/
theorem spow (a n : Int) (w : World) (h0 : 0 ≤ a) (h1 : a ≤ 46) (n0 : 0 ≤ n) (n1 : n ≤ 100) : Calls Try.prog 84 #[.int .i64 a, .int .i64 n] w fun e w' => e = .returned (.int .i64 (pw a n.toNat)) ∧ w = w' := by
  go_enter Try.func84, Try.ntmps84
  go_wp2
  go_loop [5, 6] (fun p i => ∃ k : Nat, (k : Int) ≤ n ∧ i = .int .i64 k ∧ p = .int .i64 (pw a k)) (fun _ i => n.toNat - (intOf i).toNat)
  case atStart => exact ⟨0, by omega, rfl, rfl⟩
  case round =>
    obtain ⟨k, hk, rfl, rfl⟩ := hrel
    obtain ⟨x0, x1⟩ := pw_range a k
    have m0 : 0 ≤ pw a k * a := Int.mul_nonneg x0 h0
    have m1 : pw a k * a ≤ 46 * 46 := Int.mul_le_mul x1 h1 h0 (by decide)
    by_cases hlt : (k : Int) < n
    · go_wp2
      go_round
      case rel => exact ⟨k + 1, by omega, by go_num, rfl⟩
      case measure => simp [intOf]; omega
    · have HK := Lib.hid (show n.toNat = k by omega)
      go_wp2
      go_ret
      exact ⟨ret_i (by rw [HK.out]), rfl⟩
/-- Is n one of the first k powers of 2? -/
def among (n : Int) : Nat → Bool
  | 0 => false
  | k + 1 => among n k || pw 2 k == n
theorem among_step {n : Int} {k : Nat} (h : among n k = false) (h' : (pw 2 k == n) = false) : among n (k + 1) = false := by unfold among; rw [h, h']; rfl
theorem among_hit {n : Int} {k : Nat} (h' : (pw 2 k == n) = true) : among n (k + 1) = true := by unfold among; rw [h']; simp
theorem among_mono {n : Int} {k m : Nat} (hkm : k ≤ m) (h : among n k = true) : among n m = true := by
  induction m with
  | zero => obtain rfl : k = 0 := by omega
            exact h
  | succ m ih =>
    by_cases e : k = m + 1
    · subst e; exact h
    · unfold among; rw [ih (by omega)]; rfl
theorem among_gok {n : Int} : among n 23 = gok n := by
  by_cases h : 0 ≤ n ∧ n ≤ 46
  · exact one47 (P := fun n => among n 23 = gok n) (by decide +kernel) h.1 h.2
  · have hf : gok n = false := by unfold gok; exact decide_eq_false (by omega)
    rw [hf]
    have : ∀ k, among n k = false := fun k => by
      induction k with
      | zero => rfl
      | succ k ih => exact among_step ih (by obtain ⟨u, v⟩ := pw_range 2 k; simp; omega)
    exact this 23
theorem sgok (n : Int) (w : World) : Calls Try.prog 86 #[.int .i64 n] w fun e w' => e = .returned (.bool (gok n)) ∧ w = w' := by
  have HA := Lib.hid (@among_gok n)
  go_enter Try.func86, Try.ntmps86
  go_wp2
  go_loop [3] (fun i => ∃ k : Nat, k ≤ 23 ∧ i = .int .i64 k ∧ among n k = false) (fun i => 23 - (intOf i).toNat)
  case atStart => exact ⟨0, by omega, rfl, rfl⟩
  case round =>
    obtain ⟨k, hk, rfl, hn⟩ := hrel
    have HN := Lib.hid hn; clear hn
    by_cases hlt : (k : Int) < 23
    · cases he : (pw 2 k == n) with
      | true =>
        have HE := Lib.hid (show among n 23 = true from among_mono (k := k + 1) (by omega) (among_hit he))
        go_wp2_with (go_at_call 84; refine (spow _ _ _ (by omega) (by omega) (by omega) (by omega)).mono ?_; rintro e w' ⟨rfl, rfl⟩)
        go_ret
        exact ⟨ret_b (HE.out.symm.trans HA.out), rfl⟩
      | false =>
        have HE := Lib.hid (among_step HN.out he)
        go_wp2_with (go_at_call 84; refine (spow _ _ _ (by omega) (by omega) (by omega) (by omega)).mono ?_; rintro e w' ⟨rfl, rfl⟩)
        go_round
        case rel => exact ⟨k + 1, by omega, by go_num, HE.out⟩
        case measure => simp [intOf]; omega
    · obtain rfl : k = 23 := by omega
      go_wp2
      go_ret
      exact ⟨ret_b (HN.out.symm.trans HA.out), rfl⟩
theorem sgok_yes (n : Int) (w : World) (h : gok n = true) : Calls Try.prog 86 #[.int .i64 n] w fun e w' => e = .returned (.bool true) ∧ w = w' := h ▸ sgok n w
theorem sgok_no (n : Int) (w : World) (h : gok n = false) : Calls Try.prog 86 #[.int .i64 n] w fun e w' => e = .returned (.bool false) ∧ w = w' := h ▸ sgok n w
end Con
end Go.Proofs.Ytchgjdbmianajaa
/-
  How the model draws one of the group: it lies from -1 to 48, and all that was there stays, but the reader's own place.
-/

namespace Go.Proofs.Ytchgjdbmianajaa
namespace Draw
open Go.RowKit
set_option linter.unusedVariables false

/-- A block that was just laid keeps its cells while another block turns. -/
theorem cells_kept {w w' : World} {B : Nat} {cs : Array Value} {T : TypeId} (hg : (w.alloc (.cells cs T (0, 0))).grownBy w' (some B)) (hB : B < w.heap.size) (i : Nat) (v : Value) (hi : cs[i]? = some v) :
    w'.cell? ⟨w.heap.size, i, none⟩ = some v := by
  have hb : w'.heap[w.heap.size]? = (w.alloc (.cells cs T (0, 0))).heap[w.heap.size]? := hg.block _ (by simp) (by intro e; injection e with e; omega)
  have hn : (w.alloc (.cells cs T (0, 0))).heap[w.heap.size]? = some (.cells cs T (0, 0)) := by
    show (w.heap.push _)[w.heap.size]? = _
    simp
  rw [hn] at hb
  simp [World.cell?, hb, hi]

set_option maxHeartbeats 1000000 in
theorem grp_any (w : World) (base B : Nat) (a : Option Addr) (len cap p : Nat) (h : Rd w base B a len cap p) (hp : p ≤ 100000000) :
    Calls Try.prog 83 #[.pointer (some ⟨B, 0, none⟩)] w (Drawn w base B a len cap p 2 (-1) 48) := by
  go_enter Try.func83, Try.ntmps83
  go_wp2_with fail
  refine (pick_any _ base B a len cap p 20 h (by omega) (by omega)).mono ?_
  rintro e w1 ⟨x, x0, x1, rfl, hr1, hg1, hs1⟩
  clear hs1
  rcases (by omega : x = 0 ∨ 1 ≤ x) with rfl | hx
  · go_wp2_with fail
    refine (pick_any _ base B a len cap (p + 1) 5 (hr1.alloc _) (by omega) (by omega)).mono ?_
    rintro e w2 ⟨y, y0, y1, rfl, hr2, hg2, hs2⟩
    have k0 := cells_kept hg2 hr1.lt 0 _ rfl
    have k1 := cells_kept hg2 hr1.lt 1 _ rfl
    have k2 := cells_kept hg2 hr1.lt 2 _ rfl
    have k3 := cells_kept hg2 hr1.lt 3 _ rfl
    have k4 := cells_kept hg2 hr1.lt 4 _ rfl
    rcases (by omega : y = 0 ∨ y = 1 ∨ y = 2 ∨ y = 3 ∨ y = 4) with rfl | rfl | rfl | rfl | rfl
    all_goals
      have HR := Lib.hid hr2; have HG := Lib.hid hg2; have HS := Lib.hid hs2; clear hr2 hg2 hs2
      go_wp2_with fail
      go_ret
      exact ⟨_, by omega, by omega, rfl, grown_trans hg1 (grown_trans (grown_alloc _ _ _) HG.out), p + 2, by omega, by omega, HR.out⟩
  · have h0 : (x == 0) = false := by simp; omega
    go_wp2_with fail
    refine (pick_any _ base B a len cap (p + 1) 23 hr1 (by omega) (by omega)).mono ?_
    rintro e w2 ⟨y, y0, y1, rfl, hr2, hg2, hs2⟩
    clear hs2
    have HR := Lib.hid hr2; have HG := Lib.hid hg2; clear hr2 hg2
    obtain ⟨p0, p1⟩ := Alg.pw_range 2 y.toNat
    go_wp2_with (go_at_call 84; refine (Con.spow _ _ _ (by omega) (by omega) (by omega) (by omega)).mono ?_; rintro e w' ⟨rfl, rfl⟩)
    go_ret
    exact ⟨_, by omega, by omega, rfl, grown_trans hg1 HG.out, p + 2, by omega, by omega, HR.out⟩

end Draw
end Go.Proofs.Ytchgjdbmianajaa
/-
  Words on slices of numbers in memory: what a slice holds, by the index; a row of the call's own; how both go on while memory grows.
-/

namespace Go.Proofs.Ytchgjdbmianajaa
namespace Mem
open Go.RowKit Alg
set_option linter.unusedVariables false

/-- The slice at a, of len numbers, holds z 0, z 1, .. -/
def Ints (w : World) (a : Option Addr) (len : Nat) (z : Nat → Int) : Prop :=
  len = 0 ∨ ∃ b off, a = some ⟨b, off, none⟩ ∧ b < w.heap.size ∧ ∀ j, j < len → w.cell? ⟨b, off + j, none⟩ = some (.int .i64 (z j))
theorem Ints.zero (w : World) (a : Option Addr) (z : Nat → Int) : Ints w a 0 z := .inl rfl
theorem Ints.keptB {w w' : World} {a : Option Addr} {len : Nat} {z : Nat → Int} (h : Ints w a len z) (hb : ∀ k, k < w.heap.size → w'.heap[k]? = w.heap[k]?) (hs : w.heap.size ≤ w'.heap.size) : Ints w' a len z := by
  rcases h with h | ⟨b, off, ha, hl, hc⟩
  · exact .inl h
  · exact .inr ⟨b, off, ha, by omega, fun j hj => by rw [World.cell?_of_block (w := w) (w' := w') (hb b hl)]; exact hc j hj⟩
theorem Ints.kept {w w' : World} {a : Option Addr} {len : Nat} {z : Nat → Int} (h : Ints w a len z) (hg : w.grownBy w' none) : Ints w' a len z :=
  h.keptB (fun k hk => hg.block k hk (by simp)) hg.size
theorem Ints.since {w0 w w' : World} {a : Option Addr} {len : Nat} {z : Nat → Int} (h : Ints w a len z) (hs : w.Since w.heap.size w') : Ints w' a len z :=
  h.keptB (fun k hk => hs.block k hk) hs.size
theorem Ints.congr {w : World} {a : Option Addr} {len : Nat} {z y : Nat → Int} (h : Ints w a len z) (e : ∀ j, j < len → z j = y j) : Ints w a len y := by
  rcases h with h | ⟨b, off, ha, hl, hc⟩
  · exact .inl h
  · exact .inr ⟨b, off, ha, hl, fun j hj => by rw [hc j hj, e j hj]⟩
theorem Ints.less {w : World} {a : Option Addr} {len k : Nat} {z : Nat → Int} (h : Ints w a len z) (hk : k ≤ len) : Ints w a k z := by
  rcases h with h | ⟨b, off, ha, hl, hc⟩
  · exact .inl (by omega)
  · exact .inr ⟨b, off, ha, hl, fun j hj => hc j (by omega)⟩
theorem Ints.ptr {w : World} {a : Option Addr} {len : Nat} {z : Nat → Int} (h : Ints w a len z) (hl : 1 ≤ len) : ∃ b off, a = some ⟨b, off, none⟩ ∧ b < w.heap.size ∧ ∀ j, j < len → w.cell? ⟨b, off + j, none⟩ = some (.int .i64 (z j)) := by
  rcases h with h | h
  · omega
  · exact h
theorem Ints.drew {w : World} {a : Option Addr} {len : Nat} {z : Nat → Int} (h : Ints w a len z) (n : Nat) : Ints (w.drewN n) a len z := h.keptB (fun _ _ => rfl) (Nat.le_refl _)
/-- A slice that came in. -/
theorem ints_of {w : World} {a : Option Addr} {len cap : Nat} {zs : List Int}
    (h : (a = none ∧ len = 0 ∧ cap = 0 ∧ zs = []) ∨ ∃ x, a = some x ∧ len ≤ cap ∧ cap ≤ maxLen ∧ zs.length = cap ∧ (∀ i, i < zs.length → w.cell? (x.add i) = some (.int .i64 (zs.getD i 0))) ∧ ∀ n ∈ zs, (Lit.int .i64 n).wf = true) :
    Ints w a len (fun j => zs.getD j 0) ∧ len ≤ cap ∧ cap ≤ maxLen := by
  rcases h with ⟨rfl, rfl, rfl, rfl⟩ | ⟨x, rfl, hl, hm, hz, hc, hw⟩
  · exact ⟨.inl rfl, Nat.le_refl _, Nat.zero_le _⟩
  · refine ⟨?_, hl, hm⟩
    by_cases h0 : len = 0
    · exact .inl h0
    · obtain ⟨b, off, rfl, hcc⟩ := ints_at hc (by omega)
      refine .inr ⟨b, off, rfl, ?_, fun j hj => hcc j (by omega)⟩
      have h1 := hcc 0 (by omega)
      rcases Nat.lt_or_ge b w.heap.size with h' | h'
      · exact h'
      · simp [World.cell?, Array.getElem?_eq_none h'] at h1

theorem since_grown {w w' : World} (h : w.Since w.heap.size w') : w.grownBy w' none := ⟨h.os, h.tape, h.output, h.size, fun k hk _ => h.block k hk⟩
theorem grown_since {w w' : World} (h : w.grownBy w' none) : w.Since w.heap.size w' := ⟨h.os, h.tape, h.output, h.size, fun k hk => h.block k hk (by simp)⟩
/-- Two worlds one behind the other. -/
theorem gtr {a b c : World} (h : a.grownBy b none) (k : b.grownBy c none) : a.grownBy c none := Draw.grown_trans h k

/-- A slice of the call's own, whole: block b is its row, from its head, with cap cells. -/
structure Row (w : World) (lo : Nat) (E : TypeId) (b len cap : Nat) (z : Nat → Int) : Prop where
  from_ : lo ≤ b
  row : ∃ c, w.rowIs b E cap c ∧ ∀ j, j < len → c j = .int .i64 (z j)
  le : len ≤ cap
  most : cap ≤ maxLen
theorem Row.lt {w : World} {lo : Nat} {E : TypeId} {b len cap : Nat} {z : Nat → Int} (h : Row w lo E b len cap z) : b < w.heap.size := by
  obtain ⟨c, hr, _⟩ := h.row; exact hr.lt
theorem Row.ints {w : World} {lo : Nat} {E : TypeId} {b len cap : Nat} {z : Nat → Int} (h : Row w lo E b len cap z) : Ints w (some ⟨b, 0, none⟩) len z := by
  obtain ⟨c, hr, hc⟩ := h.row
  have hle := h.le
  exact .inr ⟨b, 0, rfl, hr.lt, fun j hj => by rw [Nat.zero_add, hr.cell (by omega), hc j hj]⟩
theorem Row.cell {w : World} {lo : Nat} {E : TypeId} {b len cap : Nat} {z : Nat → Int} (h : Row w lo E b len cap z) {j : Nat} (hj : j < len) : w.cell? ⟨b, j, none⟩ = some (.int .i64 (z j)) := by
  obtain ⟨c, hr, hc⟩ := h.row
  have hle := h.le
  rw [hr.cell (by omega), hc j hj]
theorem Row.frozen {w : World} {lo : Nat} {E : TypeId} {b len cap : Nat} {z : Nat → Int} (h : Row w lo E b len cap z) (j : Nat) : w.frozen? ⟨b, j, none⟩ = false := by
  obtain ⟨c, hr, hc⟩ := h.row; exact hr.frozen j
theorem Row.of_block {w w' : World} {lo : Nat} {E : TypeId} {b len cap : Nat} {z : Nat → Int} (h : Row w lo E b len cap z) (e : w'.heap[b]? = w.heap[b]?) : Row w' lo E b len cap z := by
  obtain ⟨c, hr, hc⟩ := h.row
  exact ⟨h.from_, ⟨c, hr.of_block e, hc⟩, h.le, h.most⟩
theorem Row.kept {w w' : World} {lo : Nat} {E : TypeId} {b len cap : Nat} {z : Nat → Int} {r : Option Nat} (h : Row w lo E b len cap z) (hg : w.grownBy w' r) (hne : some b ≠ r) : Row w' lo E b len cap z :=
  h.of_block (hg.block b h.lt hne)
theorem Row.keptN {w w' : World} {lo : Nat} {E : TypeId} {b len cap : Nat} {z : Nat → Int} (h : Row w lo E b len cap z) (hg : w.grownBy w' none) : Row w' lo E b len cap z :=
  h.kept hg (by simp)
theorem Row.lower {w : World} {lo lo' : Nat} {E : TypeId} {b len cap : Nat} {z : Nat → Int} (h : Row w lo E b len cap z) (hl : lo' ≤ lo) : Row w lo' E b len cap z := ⟨by have := h.from_; omega, h.row, h.le, h.most⟩
theorem Row.congr {w : World} {lo : Nat} {E : TypeId} {b len cap : Nat} {z y : Nat → Int} (h : Row w lo E b len cap z) (e : ∀ j, j < len → z j = y j) : Row w lo E b len cap y := by
  obtain ⟨c, hr, hc⟩ := h.row
  exact ⟨h.from_, ⟨c, hr, fun j hj => by rw [hc j hj, e j hj]⟩, h.le, h.most⟩
theorem Row.set {w : World} {lo : Nat} {E : TypeId} {b len cap : Nat} {z : Nat → Int} (h : Row w lo E b len cap z) (i : Nat) (v : Int) :
    Row (w.setCell ⟨b, i, none⟩ (.int .i64 v)) lo E b len cap (fun j => if j = i then v else z j) := by
  obtain ⟨c, hr, hc⟩ := h.row
  refine ⟨h.from_, ⟨_, hr.set i _, fun j hj => ?_⟩, h.le, h.most⟩
  by_cases e : j = i
  · simp [e]
  · simp [e, hc j hj]
theorem Row.alloc {w : World} {lo : Nat} {E : TypeId} {b len cap : Nat} {z : Nat → Int} (h : Row w lo E b len cap z) (o : Obj) : Row (w.alloc o) lo E b len cap z :=
  h.keptN (Draw.grown_alloc _ _ _)
/-- What make has laid. -/
theorem Row.made (w : World) (E : TypeId) (n : Nat) (hn : n ≤ maxLen) : Row (w.alloc (.cells (madeCells #[.int .i64 0] n) E)) w.heap.size E w.heap.size n n (fun _ => 0) :=
  ⟨Nat.le_refl _, ⟨_, World.rowIs_made w _ n E, fun _ _ => rfl⟩, Nat.le_refl _, hn⟩
theorem grown_set (w : World) (b i : Nat) (v : Value) : w.grownBy (w.setCell ⟨b, i, none⟩ v) (some b) :=
  ⟨rfl, rfl, rfl, by simp [World.setCell], fun k hk hne => heap_setCell_other w _ _ _ (by show k ≠ b; intro e; exact hne (by rw [e]))⟩
/-- A store into a block that is new leaves what was there. -/
theorem grown_new {a b c : World} {B : Nat} (h : a.grownBy b none) (hB : a.heap.size ≤ B) (k : b.grownBy c (some B)) : a.grownBy c none :=
  ⟨k.os.trans h.os, k.tape.trans h.tape, k.output.trans h.output, Nat.le_trans h.size k.size,
    fun i hi _ => (k.block i (Nat.lt_of_lt_of_le hi h.size) (by intro e; injection e with e; omega)).trans (h.block i hi (by simp))⟩
theorem grown_drew {w w' : World} {r : Option Nat} (h : w.grownBy w' r) (n : Nat) : w.grownBy (w'.drewN n) r := ⟨h.os, h.tape, h.output, h.size, h.block⟩
/-- A row of the call's own, in the words of the laws on append; and back. -/
def vals (z : Nat → Int) (n : Nat) : List Value := (List.range n).map fun j => .int .i64 (z j)
theorem vals_length (z : Nat → Int) (n : Nat) : (vals z n).length = n := by simp [vals]
theorem vals_get (z : Nat → Int) {n j : Nat} (h : j < n) : (vals z n)[j]? = some (.int .i64 (z j)) := by simp [vals, h]
theorem Row.owns {w : World} {lo : Nat} {E : TypeId} {b len cap : Nat} {z : Nat → Int} (h : Row w lo E b len cap z) : w.ownsRow lo E 1 (.slice (some ⟨b, 0, none⟩) len cap) len (vals z len) := by
  obtain ⟨c, ⟨cur, hb, hs, hg⟩, hc⟩ := h.row
  refine ⟨by rw [vals_length, Nat.mul_one], .inr ⟨b, cap, cur, rfl, h.from_, hb, h.le, h.most, by rw [hs, Nat.mul_one], ?_⟩⟩
  have hle := h.le
  apply List.ext_getElem?
  intro j
  rw [Nat.mul_one, List.getElem?_take]
  by_cases hj : j < len
  · rw [if_pos hj, vals_get z hj, Array.getElem?_toList, hg j (by omega), hc j hj]
  · rw [if_neg hj]; simp [vals, hj]
theorem row_of_owns {w : World} {lo : Nat} {E : TypeId} {v : Value} {n : Nat} {xs : List Value} {z : Nat → Int} (h : w.ownsRow lo E 1 v n xs) (hn : 0 < n) (hx : ∀ j, j < n → xs[j]? = some (.int .i64 (z j))) :
    ∃ b cap, v = .slice (some ⟨b, 0, none⟩) n cap ∧ Row w lo E b n cap z := by
  rcases h.2 with ⟨_, h0⟩ | ⟨g, cap, cur, rfl, hlo, hg, hnc, hm, hcs, ht⟩
  · omega
  refine ⟨g, cap, rfl, hlo, ⟨fun i => cur[i]?.getD default, ⟨cur, hg, by omega, fun i hi => ?_⟩, fun j hj => ?_⟩, hnc, hm⟩
  · have : i < cur.size := by omega
    simp [this]
  · have h1 := hx j hj
    rw [← ht, List.getElem?_take, if_pos (by omega), Array.getElem?_toList] at h1
    simp [h1]
theorem row_empty (w : World) (E : TypeId) (z : Nat → Int) : Row (w.alloc (.cells #[] E)) w.heap.size E w.heap.size 0 0 z :=
  ⟨Nat.le_refl _, ⟨fun _ => default, ⟨#[], by show (w.heap.push _)[w.heap.size]? = _; simp, rfl, fun i hi => by omega⟩, fun j hj => by omega⟩, Nat.le_refl _, by decide⟩
/-- Behind an append of one number. -/
theorem app_row {w1 : World} {lo : Nat} {E : TypeId} {v' : Value} {k : Nat} {z : Nat → Int} {n : Int} (h : w1.ownsRow lo E 1 v' (k + 1) (vals z k ++ [.int .i64 n])) (hn : n = z k) :
    ∃ b cap, v' = .slice (some ⟨b, 0, none⟩) (k + 1) cap ∧ Row w1 lo E b (k + 1) cap z :=
  row_of_owns h (by omega) fun j hj => by
    by_cases e : j < k
    · rw [List.getElem?_append_left (by rw [vals_length]; exact e)]; exact vals_get z e
    · obtain rfl : j = k := by omega
      rw [List.getElem?_append_right (by rw [vals_length]; exact Nat.le_refl _), vals_length, Nat.sub_self, hn]; rfl
/-- .. and what it leaves of the world. -/
theorem app_grown {w wr w1 : World} {o : Obj} {b len cap : Nat} (hg : w.grownBy wr none) (hb : w.heap.size ≤ b) (h : (wr.alloc o).grownBy w1 (Value.slice (some ⟨b, 0, none⟩) len cap).ownBlock) : w.grownBy w1 none :=
  grown_new (Draw.grown_trans hg (Draw.grown_alloc _ _ _)) hb h
theorem ret_b {x y : Bool} (h : x = y) : Ending.returned (.bool x) = .returned (.bool y) := by rw [h]
theorem ret_i {x y : Int} (h : x = y) : Ending.returned (.int .i64 x) = .returned (.int .i64 y) := by rw [h]
end Mem
end Go.Proofs.Ytchgjdbmianajaa
/-
  The law of append at a step of a region that draws its order of evaluation.
-/

namespace Go.Proofs.Ytchgjdbmianajaa
namespace Mem
open Go.RowKit Alg
set_option linter.unusedVariables false

/-- The law of append at a step of a region that draws its order. -/
theorem step_app {P : Program} (w : World) {ops : Array Oper} {o : Oper} {a : Act} {K : Act → World → Prop} {Q : Exit → Act → World → Prop} {E : Prop} (hw : Region.wanted o (yielded ops a.tmps) = true) (s x : Operand) (t : TypeId)
    (ho : o.op = .call { callee := .builtin .append, args := #[s, x], argTypes := #[t, t] })
    (base : Nat) (e : TypeId) (i : TypeInfo) (z : Value) (size bytes : Nat) (ht : P.underlying t = some (.slice e)) (hi : P.info? e = some i) (hz : i.zero = some z)
    (hsize : i.size = size) (hby : i.bytes = bytes) (hzs : z.cells.size = size) (hsz : 0 < size)
    (v : Value) (n : Nat) (xs : List Value) (hs : a.eval s = v) (hown : w.ownsRow base e size v n xs)
    (ad : Addr) (m c : Nat) (news : List Value) (hx : a.eval x = .slice (some ad) m c) (hl : news.length = m * size) (hnews : ∀ j u, news[j]? = some u → w.cell? (ad.add j) = some u) (h1 : ∀ u ∈ news, u.oneCell' = true)
    (h63 : n + m ≤ maxLen) (hbytes : (n + m) * bytes ≤ 140737488355328) (hbase : base ≤ w.heap.size)
    (h : ∀ v' w', w'.ownsRow base e size v' (n + m) (xs ++ news) → w.grownBy w' v.ownBlock → (v' = .slice none 0 0 ↔ v = .slice none 0 0 ∧ m = 0) → K (a.put o.dst v') w') :
    if Region.wanted o (yielded ops a.tmps) = true then Oper.wp P o a w K Q else E := by
  rw [if_pos hw]
  exact wp_append_own w s x t ho base e i z size bytes ht hi hz hsize hby hzs hsz v n xs hs hown ad m c news hx hl hnews h1 h63 hbytes hbase h
theorem at_slot {P : Program} {ops : Array Oper} {o : Oper} {a : Act} {w : World} {K : Act → World → Prop} {Q : Exit → Act → World → Prop} {E : Prop} (d : Tmp) (h : o.dst = some d)
    (hg : if Region.wanted o (yielded ops a.tmps) = true then Oper.wp P o a w K Q else E) : if Region.wanted o (yielded ops a.tmps) = true then Oper.wp P o a w K Q else E := hg
end Mem
end Go.Proofs.Ytchgjdbmianajaa
/-
  What a deal that came in as an argument is.
-/

namespace Go.Proofs.Ytchgjdbmianajaa
namespace Op
open Go.ChangeShapes Go.WideShapes Go.ChangeAt Go.RowKit Go.Joins Mem
set_option linter.unusedVariables false

theorem op_ints {H : Type} {enc : TypeId × Value → H} {W : World} {fuel : Nat} {c : Value} {y : DataW H × List MemPlace} (h : DataW.trod enc Try.prog W 0 (fun _ => true) true fuel 23 [c] = some y) :
    ∃ (a : Option Addr) (len cap : Nat) (z : Nat → Int), c = .slice a len cap ∧ Ints W a len z ∧ len ≤ cap ∧ cap ≤ maxLen := by
  rcases open_ints Try.underlying23 Try.underlying3 (by kernel_rfl) h with ⟨hcs, _⟩ | ⟨x, l, c', zs, hcs, _, hl, hm, hz, _, hcell, hwz⟩
  · simp at hcs
    exact ⟨none, 0, 0, fun _ => 0, hcs, .inl rfl, Nat.le_refl _, Nat.zero_le _⟩
  · simp at hcs
    obtain ⟨hI, _, _⟩ := ints_of (w := W) (a := some x) (len := l) (cap := c') (zs := zs) (.inr ⟨x, rfl, hl, hm, by simpa using hz, hcell, hwz⟩)
    exact ⟨some x, l, c', _, hcs, hI, hl, hm⟩
theorem op_int {H : Type} {enc : TypeId × Value → H} {W : World} {fuel : Nat} {c : Value} {y : DataW H × List MemPlace} (h : DataW.trod enc Try.prog W 0 (fun _ => true) true fuel 3 [c] = some y) : ∃ n : Int, c = .int .i64 n := by
  obtain ⟨n, e0, _, _⟩ := DataW.trod_int Try.underlying3 h
  exact ⟨n, by simpa using e0⟩
end Op
end Go.Proofs.Ytchgjdbmianajaa
