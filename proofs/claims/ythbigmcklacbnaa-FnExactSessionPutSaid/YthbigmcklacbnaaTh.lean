/-
  A session that came in as an argument.
-/
import Derived.Test.YthbigmcklacbnaaTf
import Derived.Lib.SmallJoins
import Derived.Deep.Strs
namespace Go.Proofs.Ythbigmcklacbnaa
namespace Op
open Go.ChangeShapes Go.WideShapes Go.ChangeAt Go.RowKit Go.Joins Mem Hd Con Go.Deep
set_option linter.unusedVariables false

section
variable {H : Type} {enc : TypeId × Value → H} {P : Program} {w : World} {base : Nat} {spare : Nat → Bool} {held : Bool}
theorem open_quad {t e : TypeId} {f0 f1 f2 f3 : Field} {fuel : Nat} {cs : List Value} {x : DataW H × List MemPlace} (ht : P.underlying t = some (.slice e)) (he : P.underlying e = some (.struct #[f0, f1, f2, f3]))
    (ce : P.cellsOf e = 4) (o0 : f0.offset = 0) (o1 : f1.offset = 1) (o2 : f2.offset = 2) (o3 : f3.offset = 3) (c0 : P.cellsOf f0.type = 1) (c1 : P.cellsOf f1.type = 1) (c2 : P.cellsOf f2.type = 1) (c3 : P.cellsOf f3.type = 1)
    (h : DataW.trod enc P w base spare held fuel t cs = some x) :
    (∃ a len cap, cs = [.slice a len cap] ∧ len = 0 ∧ cap ≤ maxLen) ∨ ∃ b off len cap n, cs = [.slice (some ⟨b, off, none⟩) len cap] ∧ len ≤ cap ∧ cap ≤ maxLen ∧ b < w.heap.size ∧
      ∀ j, j < len → ∃ (v0 v1 v2 v3 : Value) (y0 y1 y2 y3 : DataW H × List MemPlace), (w.cell? ⟨b, off + j * 4, none⟩ = some v0 ∧ w.cell? ⟨b, off + j * 4 + 1, none⟩ = some v1 ∧ w.cell? ⟨b, off + j * 4 + 2, none⟩ = some v2 ∧ w.cell? ⟨b, off + j * 4 + 3, none⟩ = some v3) ∧
        DataW.trod enc P w base spare held n f0.type [v0] = some y0 ∧ DataW.trod enc P w base spare held n f1.type [v1] = some y1 ∧ DataW.trod enc P w base spare held n f2.type [v2] = some y2 ∧ DataW.trod enc P w base spare held n f3.type [v3] = some y3 := by
  rcases open_slice ht h with ⟨h0, _⟩ | ⟨a, len, cap, m, n, D, Pl, rfl, hb, hl, hm, hmm, _, hx⟩
  · exact .inl ⟨none, 0, 0, h0, rfl, Nat.zero_le _⟩
  by_cases hz : len = 0
  · exact .inl ⟨_, _, _, rfl, hz, hm⟩
  right
  have hlm : len ≤ m := by rw [hmm]; split <;> omega
  have each : ∀ i, i < m → ∃ (v0 v1 v2 v3 : Value) (y0 y1 y2 y3 : DataW H × List MemPlace), (w.cell? (a.add (i * 4)) = some v0 ∧ w.cell? (a.add (i * 4 + 1)) = some v1 ∧ w.cell? (a.add (i * 4 + 2)) = some v2 ∧ w.cell? (a.add (i * 4 + 3)) = some v3) ∧
        DataW.trod enc P w base spare held (n - 1) f0.type [v0] = some y0 ∧ DataW.trod enc P w base spare held (n - 1) f1.type [v1] = some y1 ∧ DataW.trod enc P w base spare held (n - 1) f2.type [v2] = some y2 ∧ DataW.trod enc P w base spare held (n - 1) f3.type [v3] = some y3 := by
    intro i hi
    obtain ⟨cs', h1, h2⟩ := hx i hi
    rw [ce] at h1
    obtain ⟨_, hlen, hcell⟩ := World.cells?_some h1
    obtain ⟨xs, k, hk, hxy, _, hxl, hf⟩ := DataW.trod_struct he h2
    have hk' : k = n - 1 := by omega
    subst hk'
    match xs, hxl, cs', hlen with
    | [y0, y1, y2, y3], _, [v0, v1, v2, v3], _ =>
      have g0 := hf 0 f0 rfl
      have g1 := hf 1 f1 rfl
      have g2 := hf 2 f2 rfl
      have g3 := hf 3 f3 rfl
      simp [o0, o1, o2, o3, c0, c1, c2, c3] at g0 g1 g2 g3
      have e0 := hcell 0 (by omega)
      have e1 := hcell 1 (by omega)
      have e2 := hcell 2 (by omega)
      have e3 := hcell 3 (by omega)
      rw [add_add] at e0 e1 e2 e3
      exact ⟨v0, v1, v2, v3, y0, y1, y2, y3, ⟨by simpa using e0, by simpa using e1, by simpa using e2, by simpa using e3⟩, g0, g1, g2, g3⟩
  obtain ⟨b, off, spot⟩ := a
  have hspot : spot = none := by
    obtain ⟨v0, _, _, _, _, _, _, _, ⟨h0, _⟩, _⟩ := each 0 (by omega)
    simpa [Addr.add] using World.cell?_spot h0
  subst hspot
  have hlt : b < w.heap.size := by
    obtain ⟨v0, _, _, _, _, _, _, _, ⟨h0, _⟩, _⟩ := each 0 (by omega)
    rcases Nat.lt_or_ge b w.heap.size with h' | h'
    · exact h'
    · rw [Go.WideShapes.add_plain] at h0; simp [World.cell?, Array.getElem?_eq_none h'] at h0
  refine ⟨b, off, len, cap, n - 1, rfl, hl, hm, hlt, fun j hj => ?_⟩
  obtain ⟨v0, v1, v2, v3, y0, y1, y2, y3, ⟨h0, h1, h2, h3⟩, g0, g1, g2, g3⟩ := each j (by omega)
  rw [Go.WideShapes.add_plain] at h0 h1 h2 h3
  exact ⟨v0, v1, v2, v3, y0, y1, y2, y3, ⟨h0, by rw [Nat.add_assoc]; exact h1, by rw [Nat.add_assoc]; exact h2, by rw [Nat.add_assoc]; exact h3⟩, g0, g1, g2, g3⟩
end
theorem c_shn : Try.prog.cellsOf 121 = 4 := by kernel_rfl
theorem c_intq : Try.prog.cellsOf 3 = 1 := by kernel_rfl
theorem c_boolq : Try.prog.cellsOf 4 = 1 := by kernel_rfl
set_option maxRecDepth 100000 in
theorem op_shns {H : Type} {enc : TypeId × Value → H} {W : World} {fuel : Nat} {c : Value} {y : DataW H × List MemPlace} (hf : DataW.trod enc Try.prog W 0 (fun _ => true) true fuel 76 [c] = some y) :
    ∃ (a : Option Addr) (len cap : Nat) (S : Nat → SV), c = .slice a len cap ∧ ShIn W a len S ∧ len ≤ maxLen := by
  rcases open_quad Try.underlying76 Try.underlying121 c_shn rfl rfl rfl rfl c_intq c_intq c_boolq c_intq hf with ⟨x, l, cc, hcs, hl, hm⟩ | ⟨b, off, l, cc, n, hcs, hl, hm, hb, hx⟩
  · simp at hcs
    subst hcs
    exact ⟨x, l, cc, fun _ => ⟨0, 0, false, 0⟩, rfl, .inl hl, by unfold maxLen; omega⟩
  · simp at hcs
    subst hcs
    have each : ∀ j, j < l → ∃ A : SV, W.cell? ⟨b, off + j * 4, none⟩ = some (.int .i64 A.m) ∧ W.cell? ⟨b, off + j * 4 + 1, none⟩ = some (.int .i64 A.R) ∧ W.cell? ⟨b, off + j * 4 + 2, none⟩ = some (.bool A.on) ∧ W.cell? ⟨b, off + j * 4 + 3, none⟩ = some (.int .i64 A.Z) := by
      intro j hj
      obtain ⟨v0, v1, v2, v3, y0, y1, y2, y3, hc, g0, g1, g2, g3⟩ := hx j hj
      obtain ⟨x0, rfl⟩ := op_int g0
      obtain ⟨x1, rfl⟩ := op_int g1
      obtain ⟨x2, e2, _⟩ := DataW.trod_bool Try.underlying4 g2
      obtain ⟨x3, rfl⟩ := op_int g3
      simp at e2
      subst e2
      exact ⟨⟨x0, x1, x2, x3⟩, hc⟩
    have ⟨A, hA⟩ : ∃ A : Nat → SV, ∀ j, j < l → W.cell? ⟨b, off + j * 4, none⟩ = some (.int .i64 (A j).m) ∧ W.cell? ⟨b, off + j * 4 + 1, none⟩ = some (.int .i64 (A j).R) ∧ W.cell? ⟨b, off + j * 4 + 2, none⟩ = some (.bool (A j).on) ∧ W.cell? ⟨b, off + j * 4 + 3, none⟩ = some (.int .i64 (A j).Z) := by
      classical
      exact ⟨fun j => if h : j < l then (each j h).choose else ⟨0, 0, false, 0⟩, fun j hj => by simp only [dif_pos hj]; exact (each j hj).choose_spec⟩
    exact ⟨_, _, _, A, rfl, .inr ⟨b, off, rfl, hb, hA⟩, by omega⟩
theorem c_ses : Try.prog.cellsOf 78 = 6 := by kernel_rfl
theorem c_keyq : Try.prog.cellsOf 61 = 4 := by kernel_rfl
theorem c_intsq : Try.prog.cellsOf 29 = 1 := by kernel_rfl
theorem c_shnsq : Try.prog.cellsOf 76 = 1 := by kernel_rfl
theorem array6 {α : Type} {cs : Array α} (h : cs.size = 6) : ∃ c0 c1 c2 c3 c4 c5, cs = #[c0, c1, c2, c3, c4, c5] := by
  obtain ⟨l⟩ := cs
  match l, h with
  | [c0, c1, c2, c3, c4, c5], _ => exact ⟨c0, c1, c2, c3, c4, c5, rfl⟩
set_option maxRecDepth 100000 in
theorem op_sess {H : Type} {enc : TypeId × Value → H} {W : World} {base : Nat} {v : Value} {d : DataW H} {p : List MemPlace} (hv : Value.okWide Try.prog W .any base 78 v) (h : DataW.Trod enc Try.prog W 0 (fun _ => true) true 78 v d p) :
    ∃ (need many : Int) (a1 : Option Addr) (n1 c1 : Nat) (z1 : Nat → Int) (a2 : Option Addr) (n2 c2 : Nat) (z2 : Nat → Int) (msg : Int) (a3 : Option Addr) (n3 c3 : Nat) (S : Nat → SV), v = .agg #[.int .i64 need, .int .i64 many, .slice a1 n1 c1, .slice a2 n2 c2, .int .i64 msg, .slice a3 n3 c3] ∧ Ints W a1 n1 z1 ∧ Ints W a2 n2 z2 ∧ ShIn W a3 n3 S ∧ n1 ≤ maxLen ∧ n2 ≤ maxLen ∧ n3 ≤ maxLen := by
  obtain ⟨cs, rfl, hsz⟩ := okWide_struct Try.underlying78 hv
  obtain ⟨c0, c1, c2, c3, c4, c5, rfl⟩ := array6 (hsz.trans c_ses)
  obtain ⟨fuel, hf⟩ := h
  obtain ⟨y0, y1, y2, n, _, _, h0, h1, h2⟩ := trod_struct3 Try.underlying78 hf
  have h0' : DataW.trod enc Try.prog W 0 (fun _ => true) true n 61 [c0, c1, c2, c3] = some y0 := by simpa [Value.cells, c_keyq] using h0
  have h1' : DataW.trod enc Try.prog W 0 (fun _ => true) true n 3 [c4] = some y1 := by simpa [Value.cells, c_intq] using h1
  have h2' : DataW.trod enc Try.prog W 0 (fun _ => true) true n 76 [c5] = some y2 := by simpa [Value.cells, c_shnsq] using h2
  obtain ⟨x0, x1, x2, x3, m, _, _, k0, k1, k2, k3⟩ := trod_struct4 Try.underlying61 h0'
  have k0' : DataW.trod enc Try.prog W 0 (fun _ => true) true m 3 [c0] = some x0 := by simpa [c_intq] using k0
  have k1' : DataW.trod enc Try.prog W 0 (fun _ => true) true m 3 [c1] = some x1 := by simpa [c_intq] using k1
  have k2' : DataW.trod enc Try.prog W 0 (fun _ => true) true m 29 [c2] = some x2 := by simpa [c_intsq] using k2
  have k3' : DataW.trod enc Try.prog W 0 (fun _ => true) true m 29 [c3] = some x3 := by simpa [c_intsq] using k3
  obtain ⟨f, rfl⟩ := op_int k0'
  obtain ⟨g, rfl⟩ := op_int k1'
  obtain ⟨a1, n1, e1, z1, rfl, i1, l1, m1⟩ := op_ints k2'
  obtain ⟨a2, n2, e2, z2, rfl, i2, l2, m2⟩ := op_ints k3'
  obtain ⟨u, rfl⟩ := op_int h1'
  obtain ⟨a3, n3, e3, S, rfl, i3, m3⟩ := op_shns h2'
  exact ⟨f, g, a1, n1, e1, z1, a2, n2, e2, z2, u, a3, n3, e3, S, rfl, i1, i2, i3, by omega, by omega, m3⟩
end Op
end Go.Proofs.Ythbigmcklacbnaa
