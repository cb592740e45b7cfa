/-
  How the model's reader of a code draws: what each call of its 'pick' answers lies from 0 on and below its bound, it writes nothing but the reader's own place, and the code itself stays as it was.
-/
import Derived.Test.YtkklhlffbfgolaaDoorRows
import Derived.WalkKit
import Derived.ProofKit
import Derived.Lib.Hide
import Derived.Outline
import Derived.Deep.QuietTactic
import Derived.BigQuiet
import Derived.WalkSmall
import Derived.Laws.Rows
import Derived.OpenShut
namespace Go.Proofs.YtkklhlffbfgolaaDoor
namespace Draw
open Go.RowKit
set_option linter.unusedVariables false

/-- A code's bytes lie below 'base', or there are none. -/
def Bytes (w : World) (base : Nat) (a : Option Addr) (len : Nat) : Prop :=
  len = 0 ∨ ∃ b off, a = some ⟨b, off, none⟩ ∧ b < base ∧ ∀ j, j < len → ∃ n : Int, 0 ≤ n ∧ n ≤ 255 ∧ w.cell? ⟨b, off + j, none⟩ = some (.int .u8 n)

/-- Block B is the reader: its bytes, and its place. -/
structure Rd (w : World) (base B : Nat) (a : Option Addr) (len cap p : Nat) : Prop where
  from_ : base ≤ B
  block : w.heap[B]? = some (.cells #[.slice a len cap, .int .i64 (p : Int)] 64 (0, 0))
  bytes : Bytes w base a len
  few : len ≤ 2000

theorem Bytes.kept {w w' : World} {base : Nat} {a : Option Addr} {len : Nat} (h : Bytes w base a len) (hb : ∀ k, k < base → w'.heap[k]? = w.heap[k]?) : Bytes w' base a len := by
  rcases h with h | ⟨b, off, ha, hl, hc⟩
  · exact .inl h
  · refine .inr ⟨b, off, ha, hl, fun j hj => ?_⟩
    obtain ⟨n, n0, n1, hn⟩ := hc j hj
    exact ⟨n, n0, n1, by rw [World.cell?_of_block (w := w) (w' := w') (hb b hl)]; exact hn⟩
theorem Rd.kept {w w' : World} {base B : Nat} {a : Option Addr} {len cap p : Nat} (h : Rd w base B a len cap p) (hb : ∀ k, k < base → w'.heap[k]? = w.heap[k]?) (hB : w'.heap[B]? = w.heap[B]?) : Rd w' base B a len cap p :=
  ⟨h.from_, hB.trans h.block, h.bytes.kept hb, h.few⟩
theorem Rd.lt {w : World} {base B : Nat} {a : Option Addr} {len cap p : Nat} (h : Rd w base B a len cap p) : B < w.heap.size := by
  rcases Nat.lt_or_ge B w.heap.size with h' | h'
  · exact h'
  · have := h.block; simp [Array.getElem?_eq_none h'] at this
theorem Rd.cell0 {w : World} {base B : Nat} {a : Option Addr} {len cap p : Nat} (h : Rd w base B a len cap p) : w.cell? ⟨B, 0, none⟩ = some (.slice a len cap) := by simp [World.cell?, h.block]
theorem Rd.cell1 {w : World} {base B : Nat} {a : Option Addr} {len cap p : Nat} (h : Rd w base B a len cap p) : w.cell? ⟨B, 1, none⟩ = some (.int .i64 (p : Int)) := by simp [World.cell?, h.block]
theorem Rd.free1 {w : World} {base B : Nat} {a : Option Addr} {len cap p : Nat} (h : Rd w base B a len cap p) : w.frozen? ⟨B, 1, none⟩ = false := by simp [World.frozen?, h.block]
/-- Behind a pick the reader is one place on. -/
theorem Rd.next {w : World} {base B : Nat} {a : Option Addr} {len cap p : Nat} (h : Rd w base B a len cap p) (nq : Nat) : Rd ((w.setCell ⟨B, 1, none⟩ (.int .i64 ((p : Int) + 1))).drewN nq) base B a len cap (p + 1) := by
  refine ⟨h.from_, ?_, h.bytes.kept fun k hk => ?_, h.few⟩
  · show (w.setCell ⟨B, 1, none⟩ _).heap[B]? = _
    rw [heap_setCell_same w B 1 _ _ _ h.block]
    rfl
  · show (w.setCell ⟨B, 1, none⟩ _).heap[k]? = _
    exact heap_setCell_other w _ _ _ (by have := h.from_; show k ≠ B; omega)

/-- What a pick leaves: a number from 0 on below n; the reader one place on; all else as it was. -/
def Picked (w : World) (base B : Nat) (a : Option Addr) (len cap p : Nat) (n : Int) (e : Ending) (w' : World) : Prop :=
  ∃ x : Int, 0 ≤ x ∧ x < n ∧ e = .returned (.int .i64 x) ∧ Rd w' base B a len cap (p + 1) ∧ w.grownBy w' (some B) ∧ w'.heap.size = w.heap.size

theorem grown_next (w : World) (B : Nat) (v : Value) (nq : Nat) : w.grownBy ((w.setCell ⟨B, 1, none⟩ v).drewN nq) (some B) :=
  ⟨rfl, rfl, rfl, by show _ ≤ (w.setCell ⟨B, 1, none⟩ v).heap.size; simp [World.setCell], fun k hk hne => heap_setCell_other w _ _ _ (by show k ≠ B; intro e; exact hne (by rw [e]))⟩
theorem size_next (w : World) (B : Nat) (v : Value) (nq : Nat) : ((w.setCell ⟨B, 1, none⟩ v).drewN nq).heap.size = w.heap.size := by
  show (w.setCell ⟨B, 1, none⟩ v).heap.size = _; simp [World.setCell]
theorem picked_mk {w : World} {base B : Nat} {a : Option Addr} {len cap p : Nat} {n : Int} (h : Rd w base B a len cap p) {x : Int} (x0 : 0 ≤ x) (x1 : x < n) (nq : Nat) :
    Picked w base B a len cap p n (.returned (.int .i64 x)) ((w.setCell ⟨B, 1, none⟩ (.int .i64 ((p : Int) + 1))).drewN nq) :=
  ⟨x, x0, x1, rfl, h.next nq, grown_next _ _ _ _, size_next _ _ _ _⟩

theorem xor_i64 (a b : Nat) (ha : a < 9223372036854775808) (hb : b < 9223372036854775808) : bits .xor .i64 (a : Int) (b : Int) = ((a ^^^ b : Nat) : Int) := by
  have hx : a ^^^ b < 2 ^ 63 := Nat.xor_lt_two_pow (by omega) (by omega)
  have h1 : (BitVec.ofInt 64 (a : Int)).toNat = a := by
    rw [BitVec.ofInt_natCast, BitVec.toNat_ofNat]; exact Nat.mod_eq_of_lt (by omega)
  have h2 : (BitVec.ofInt 64 (b : Int)).toNat = b := by
    rw [BitVec.ofInt_natCast, BitVec.toNat_ofNat]; exact Nat.mod_eq_of_lt (by omega)
  show IntKind.i64.wrap ((BitVec.ofInt 64 (a : Int) ^^^ BitVec.ofInt 64 (b : Int)).toNat : Int) = _
  rw [BitVec.toNat_xor, h1, h2]
  simp [IntKind.wrap, IntKind.bits, IntKind.signed]
  omega
theorem mix_range (x y n : Int) (x0 : 0 ≤ x) (x1 : x ≤ 1000000000000) (y0 : 0 ≤ y) (y1 : y ≤ 1000000000000) (hn : 1 ≤ n) : 0 ≤ (bits .xor .i64 x y).tmod n ∧ (bits .xor .i64 x y).tmod n < n := by
  obtain ⟨a, rfl⟩ := Int.eq_ofNat_of_zero_le x0
  obtain ⟨b, rfl⟩ := Int.eq_ofNat_of_zero_le y0
  rw [xor_i64 a b (by omega) (by omega)]
  exact ⟨Int.tmod_nonneg _ (by omega), Int.tmod_lt_of_pos _ (by omega)⟩

theorem pick_none (w : World) (base B : Nat) (a : Option Addr) (cap p : Nat) (n : Int) (h : Rd w base B a 0 cap p) (hp : p ≤ 1000000000) (hn : 1 ≤ n) :
    Calls Tryd.prog 13 #[.pointer (some ⟨B, 0, none⟩), .int .i64 n] w (Picked w base B a 0 cap p n) := by
  have c0 := h.cell0
  have c1 := h.cell1
  have f1 := h.free1
  have HR := Lib.hid h; clear h
  go_enter Tryd.func13, Tryd.ntmps13
  go_wp2
  go_ret
  exact picked_mk HR.out (by omega) (by omega) 0

theorem pick_in (w : World) (base B : Nat) (a : Option Addr) (len cap p : Nat) (n : Int) (h : Rd w base B a len cap p) (hl : p < len) (hn : 1 ≤ n) :
    Calls Tryd.prog 13 #[.pointer (some ⟨B, 0, none⟩), .int .i64 n] w (Picked w base B a len cap p n) := by
  have c0 := h.cell0
  have c1 := h.cell1
  have f1 := h.free1
  have hfew := h.few
  rcases h.bytes with h0 | ⟨b, off, rfl, hb, hc⟩
  · omega
  obtain ⟨u, u0, u1, hu⟩ := hc p hl
  have hbB := h.from_
  have hu' : ∀ v, (w.setCell ⟨B, 1, none⟩ v).cell? ⟨b, off + p, none⟩ = some (.int .u8 u) := fun v => by
    rw [World.cell?_setCell_other w _ _ v (by intro e; injection e with e1; omega)]; exact hu
  have HR := Lib.hid h; clear h hc hu
  have hlen : ((len : Int) == 0) = false := by simp; omega
  go_enter Tryd.func13, Tryd.ntmps13
  go_wp2
  go_ret
  exact picked_mk HR.out (Int.emod_nonneg _ (by omega)) (Int.emod_lt_of_pos _ (by omega)) 0

theorem pick_past (w : World) (base B : Nat) (a : Option Addr) (len cap p : Nat) (n : Int) (h : Rd w base B a len cap p) (h1 : 1 ≤ len) (hl : len ≤ p) (hp : p ≤ 1000000000) (hn : 1 ≤ n) :
    Calls Tryd.prog 13 #[.pointer (some ⟨B, 0, none⟩), .int .i64 n] w (Picked w base B a len cap p n) := by
  have c0 := h.cell0
  have c1 := h.cell1
  have f1 := h.free1
  have hfew := h.few
  rcases h.bytes with h0 | ⟨b, off, rfl, hb, hc⟩
  · omega
  obtain ⟨u, u0, u1, hu⟩ := hc (p % len) (Nat.mod_lt _ (by omega))
  obtain ⟨v, v0, v1, hv⟩ := hc ((p * 7 + 3) % len) (Nat.mod_lt _ (by omega))
  have hbB := h.from_
  have hu' : ∀ x, (w.setCell ⟨B, 1, none⟩ x).cell? ⟨b, off + p % len, none⟩ = some (.int .u8 u) := fun x => by
    rw [World.cell?_setCell_other w _ _ x (by intro e; injection e with e1; omega)]; exact hu
  have hv' : ∀ x, (w.setCell ⟨B, 1, none⟩ x).cell? ⟨b, off + (p * 7 + 3) % len, none⟩ = some (.int .u8 v) := fun x => by
    rw [World.cell?_setCell_other w _ _ x (by intro e; injection e with e1; omega)]; exact hv
  have HR := Lib.hid h; clear h hc hu hv
  have hlen : ((len : Int) == 0) = false := by simp; omega
  have hlt : ¬ (p : Int) < (len : Int) := by omega
  have L0 : (0 : Int) < (len : Int) := by omega
  have A0 : 0 ≤ (p : Int) % (len : Int) := Int.emod_nonneg _ (by omega)
  have A1 : (p : Int) % (len : Int) < (len : Int) := Int.emod_lt_of_pos _ L0
  have A2 : ((p : Int) % (len : Int)).toNat = p % len := by omega
  have C0 : 0 ≤ ((p : Int) * 7 + 3) % (len : Int) := Int.emod_nonneg _ (by omega)
  have C1 : ((p : Int) * 7 + 3) % (len : Int) < (len : Int) := Int.emod_lt_of_pos _ L0
  have C2 : (((p : Int) * 7 + 3) % (len : Int)).toNat = (p * 7 + 3) % len := by
    rw [show ((p : Int) * 7 + 3) = ((p * 7 + 3 : Nat) : Int) from by omega, ← Int.natCast_emod]; exact Int.toNat_natCast _
  have D0 : 0 ≤ (p : Int) / (len : Int) := Int.ediv_nonneg (by omega) (by omega)
  have D1 : (p : Int) / (len : Int) ≤ (p : Int) := Int.ediv_le_self _ (by omega)
  go_enter Tryd.func13, Tryd.ntmps13
  go_wp2
  go_quiet (fail)
  go_wp2
  go_ret
  obtain ⟨m0, m1⟩ := mix_range (u * 131 + v * 1117 + ↑p * 29 + ↑p / ↑len * 53) ((u * 131 + v * 1117 + ↑p * 29 + ↑p / ↑len * 53) / 64) n (by omega) (by omega) (by omega) (by omega) hn
  exact picked_mk HR.out m0 m1 _

theorem pick_any (w : World) (base B : Nat) (a : Option Addr) (len cap p : Nat) (n : Int) (h : Rd w base B a len cap p) (hp : p ≤ 1000000000) (hn : 1 ≤ n) :
    Calls Tryd.prog 13 #[.pointer (some ⟨B, 0, none⟩), .int .i64 n] w (Picked w base B a len cap p n) := by
  by_cases h1 : len = 0
  · subst h1; exact pick_none w base B a cap p n h hp hn
  · by_cases h2 : p < len
    · exact pick_in w base B a len cap p n h h2 hn
    · exact pick_past w base B a len cap p n h (by omega) (by omega) hp hn
theorem Bytes.less {w : World} {base : Nat} {a : Option Addr} {len len' : Nat} (h : Bytes w base a len) (hl : len' ≤ len) : Bytes w base a len' := by
  rcases h with h | ⟨b, off, ha, hb, hc⟩
  · exact .inl (by omega)
  · exact .inr ⟨b, off, ha, hb, fun j hj => hc j (by omega)⟩

/-- What opening a code leaves: a new block, the reader, at place 0. -/
def Opened (w : World) (base : Nat) (a : Option Addr) (e : Ending) (w' : World) : Prop :=
  e = .returned (.pointer (some ⟨w.heap.size, 0, none⟩)) ∧ w.grownBy w' none ∧ w'.heap.size = w.heap.size + 1 ∧ ∃ len cap, Rd w' base w.heap.size a len cap 0

theorem opened_mk {w : World} {base : Nat} {a : Option Addr} {len cap : Nat} (hB : Bytes w base a len) (hb : base ≤ w.heap.size) (hl : len ≤ 2000) :
    Opened w base a (.returned (.pointer (some ⟨w.heap.size, 0, none⟩))) (w.alloc (.cells #[.slice a len cap, .int .i64 0] 64 (0, 0))) := by
  refine ⟨rfl, ⟨rfl, rfl, rfl, by simp, fun k hk _ => Below.heap_alloc _ _ _ hk⟩, by simp, len, cap, hb, ?_, hB.kept fun k hk => Below.heap_alloc _ _ _ (by omega), hl⟩
  show (w.heap.push _)[w.heap.size]? = _
  simp

theorem open_any (w : World) (base : Nat) (a : Option Addr) (len cap : Nat) (hB : Bytes w base a len) (hb : base ≤ w.heap.size) (hc : len ≤ cap) (hm : cap ≤ maxLen) :
    Calls Tryd.prog 11 #[.slice a len cap] w (Opened w base a) := by
  unfold maxLen at hm
  have HB := Lib.hid hB
  by_cases hl : len ≤ 2000
  · clear hB
    have hl' : ¬ (2000 : Int) < (len : Int) := by omega
    go_enter Tryd.func11, Tryd.ntmps11
    go_wp2
    go_ret
    exact opened_mk HB.out hb hl
  · rcases hB with h | ⟨b, off, rfl, hbb, hcc⟩
    · omega
    clear hcc
    have hl' : (2000 : Int) < (len : Int) := by omega
    go_enter Tryd.func11, Tryd.ntmps11
    go_wp2
    go_ret
    exact opened_mk (HB.out.less (by omega)) hb (by omega)

/-- A code that came in: its bytes lie below the heap's size. -/
theorem bytes_of {w : World} {a : Option Addr} {len cap : Nat} {zs : List Int}
    (h : (a = none ∧ len = 0 ∧ cap = 0 ∧ zs = []) ∨ ∃ x, a = some x ∧ len ≤ cap ∧ cap ≤ maxLen ∧ zs.length = cap ∧ (∀ i, i < zs.length → w.cell? (x.add i) = some (.int .u8 (zs.getD i 0))) ∧ ∀ n ∈ zs, (Lit.int .u8 n).wf = true) :
    Bytes w w.heap.size a len ∧ len ≤ cap ∧ cap ≤ maxLen := by
  rcases h with ⟨rfl, rfl, rfl, rfl⟩ | ⟨x, rfl, hl, hm, hz, hc, hw⟩
  · exact ⟨.inl rfl, Nat.le_refl _, Nat.zero_le _⟩
  · refine ⟨?_, hl, hm⟩
    by_cases h0 : len = 0
    · exact .inl h0
    · obtain ⟨b, off, rfl, hcc⟩ := ints_at hc (by omega)
      refine .inr ⟨b, off, rfl, ?_, fun j hj => ⟨zs.getD j 0, ?_, ?_, hcc j (by omega)⟩⟩
      · have h1 := hcc 0 (by omega)
        rcases Nat.lt_or_ge b w.heap.size with h' | h'
        · exact h'
        · simp [World.cell?, Array.getElem?_eq_none h'] at h1
      · have := range_u8 hw j
        simpa [List.getD_eq_getElem?_getD] using this.1
      · have := range_u8 hw j
        simpa [List.getD_eq_getElem?_getD] using this.2
theorem below_of {w w' : World} (h : w.grownBy w' none) : Below w.heap.size w w' :=
  ⟨h.os, h.tape, h.output, h.size, fun k hk => h.block k hk (by simp)⟩

end Draw
end Go.Proofs.YtkklhlffbfgolaaDoor
