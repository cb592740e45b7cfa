/-
  What dealers have published: the program's map of the answered shares, by dealer and member, by its contract.
-/
import Derived.Test.YtkklhlffbfgolaaDoorMe
import Derived.Test.YtkklhlffbfgolaaDoorKb
import Derived.Test.YtkklhlffbfgolaaDoorRows
import Derived.Maps.AppendAt
import Derived.ProofKit
import Derived.DeepKeys5
namespace Go.Proofs.YtkklhlffbfgolaaDoor
namespace Mp
open Go.RowKit Alg Mem Con Me
open Go.ChangeShapes (lits)
set_option linter.unusedVariables false

/-- An answer. -/
structure Ans where
  f : Int
  t : Int
  s : Int
/-- The shares that the first k answers give, of a dealer to a member. -/
def shs (A : Nat → Ans) (f t : Int) : Nat → List Int
  | 0 => []
  | k + 1 => shs A f t k ++ (if (A k).f = f ∧ (A k).t = t then [(A k).s] else [])
theorem shs_len (A : Nat → Ans) (f t : Int) (k : Nat) : (shs A f t k).length ≤ k := by
  induction k with
  | zero => simp [shs]
  | succ k ih => simp only [shs, List.length_append]; split <;> simp <;> omega
theorem shs_yes {A : Nat → Ans} {f t : Int} {k : Nat} (h : (A k).f = f ∧ (A k).t = t) : shs A f t (k + 1) = shs A f t k ++ [(A k).s] := by simp [shs, h]
theorem shs_no {A : Nat → Ans} {f t : Int} {k : Nat} (h : ¬ ((A k).f = f ∧ (A k).t = t)) : shs A f t (k + 1) = shs A f t k := by simp [shs, h]
abbrev wf (n : Int) : Bool := (Lit.int .i64 n).wf
/-- Answers in memory. -/
def AnsIn (w : World) (a : Option Addr) (len : Nat) (A : Nat → Ans) : Prop :=
  len = 0 ∨ ∃ b off, a = some ⟨b, off, none⟩ ∧ b < w.heap.size ∧ ∀ j, j < len → w.cell? ⟨b, off + j * 3, none⟩ = some (.int .i64 (A j).f) ∧ w.cell? ⟨b, off + j * 3 + 1, none⟩ = some (.int .i64 (A j).t) ∧ w.cell? ⟨b, off + j * 3 + 2, none⟩ = some (.int .i64 (A j).s)
def WfA (len : Nat) (A : Nat → Ans) : Prop := ∀ j, j < len → wf (A j).f = true ∧ wf (A j).t = true ∧ wf (A j).s = true
theorem AnsIn.keptB {w w' : World} {a : Option Addr} {len : Nat} {A : Nat → Ans} (h : AnsIn w a len A) (hb : ∀ k, k < w.heap.size → w'.heap[k]? = w.heap[k]?) (hs : w.heap.size ≤ w'.heap.size) : AnsIn w' a len A := by
  rcases h with h | ⟨b, off, ha, hl, hc⟩
  · exact .inl h
  · refine .inr ⟨b, off, ha, by omega, fun j hj => ?_⟩
    rw [World.cell?_of_block (w := w) (w' := w') (hb b hl), World.cell?_of_block (w := w) (w' := w') (hb b hl), World.cell?_of_block (w := w) (w' := w') (hb b hl)]
    exact hc j hj
theorem AnsIn.kept {w w' : World} {a : Option Addr} {len : Nat} {A : Nat → Ans} (h : AnsIn w a len A) (hg : w.grownBy w' none) : AnsIn w' a len A := h.keptB (fun k hk => hg.block k hk (by simp)) hg.size

theorem laidOut : laidOutB Tryd.prog = true := by kernel_rfl
theorem rowC : (79 : TypeId) < Tryd.prog.types.size := of_decide_eq_true (by kernel_rfl)
theorem wideC : (match Tryd.prog.underlying 79 with | some (.array _ _) | some (.struct _) => true | _ => false) = true := by kernel_rfl
set_option maxRecDepth 100000 in
theorem lawC : WideMaps.KeyLaw Tryd.prog 79 := deep_law_laid laidOut (m := 2) (by omega) rowC (by kernel_rfl) wideC
theorem keyedC : Maps.Keyed Tryd.prog 79 := Maps.Keyed.of_law lawC
theorem zeroI (w : World) : (zeroValue 23).run Tryd.prog w = .ok (.slice none 0 0) w := by kernel_rfl
theorem und_map : Tryd.prog.underlying 50 = some (.map 79 23) := by kernel_rfl
theorem cellsC : Tryd.prog.cellsOf 79 = 2 := by kernel_rfl
theorem keyTC : Tryd.prog.keyType 79 = true := by kernel_rfl
theorem typesC : ∃ m, Tryd.prog.types.size = m + 2 := ⟨Tryd.prog.types.size - 2, by kernel_rfl⟩
/-- What a key reads as. -/
def kl (f t : Int) : Lit := .string (keyBytes [.int .i64 f, .int .i64 t])
theorem hkeyC {f t : Int} (hf : wf f = true) (ht : wf t = true) : keyOf Tryd.prog 79 (.agg #[.int .i64 f, .int .i64 t]) = some (kl f t) := by
  obtain ⟨m, hm⟩ := typesC
  unfold keyOf
  simp only [Tryd.underlying79]
  rw [if_pos (by simp [keyTC, Value.formed, Tryd.underlying79, cellsC]), hm]
  have c1 : Tryd.prog.cellsOf 3 = 1 := by kernel_rfl
  unfold Program.keyLits
  simp only [Tryd.underlying79, Value.cells]
  rw [if_pos ⟨by rw [cellsC]; rfl, by kernel_rfl⟩]
  simp only [List.mapM_cons, List.mapM_nil]
  simp [c1, Program.keyLits, Tryd.underlying3, show (Lit.int .i64 f).wf = true from hf, show (Lit.int .i64 t).wf = true from ht, kl]
theorem kl_inj {f t f' t' : Int} (hf : wf f = true) (ht : wf t = true) (hf' : wf f' = true) (ht' : wf t' = true) (h : kl f t = kl f' t') : f = f' ∧ t = t' := by
  have := lawC.inj (hkeyC hf ht) (by rw [h]; exact hkeyC hf' ht')
  simpa using this
/-- What a map holds at a key: these numbers. -/
def Reads (D : DataW Unit) (k : Lit) (zs : List Int) : Prop := (D.atKey k .nil = .nil ∧ zs = []) ∨ D.atKey k .nil = .slice (lits .i64 zs) []
theorem lits_inj {zs ys : List Int} (h : lits (H := Unit) .i64 zs = lits .i64 ys) : zs = ys := by
  unfold lits at h
  exact (List.map_inj_right (fun a b hab => by injection hab with hab; injection hab)).1 h
theorem reads_eq {w : World} {base : Nat} {e : TypeId} {D : DataW Unit} {k : Lit} {v : Value} {zs ys : List Int} (h : Reads D k ys) (ho : w.ownsInts base e .i64 v zs) (hat : D.atKey k .nil = rowDatum .i64 v zs) : zs = ys := by
  rcases ho.datum (H := Unit) with ⟨h1, e1⟩ | h1 <;> rcases h with ⟨h2, e2⟩ | h2 <;> rw [hat, h1] at h2
  · rw [e1, e2]
  · cases h2
  · cases h2
  · injection h2 with h2 _; exact lits_inj h2
theorem reads_nil (k : Lit) : Reads (.map []) k [] := .inl ⟨rfl, rfl⟩
/-- What has been published, in memory. -/
def Pub (w : World) (p : Value) (A : Nat → Ans) (n : Nat) : Prop :=
  ∃ (b base : Nat) (D : DataW Unit), p = .map (some b) ∧ w.ownsGroups Tryd.prog 79 base 3 .i64 b n D ∧ ∀ f t, wf f = true → wf t = true → Reads D (kl f t) (shs A f t n)
theorem Pub.kept {w w' : World} {p : Value} {A : Nat → Ans} {n : Nat} (h : Pub w p A n) (hg : w.grownBy w' none) : Pub w' p A n := by
  obtain ⟨b, base, D, hp, ho, hr⟩ := h
  exact ⟨b, base, D, hp, groups_kept ho hg, hr⟩
theorem grown_own {w wr w' : World} {r : Option Nat} (h : w.grownBy wr none) (hk : wr.grownBy w' r) (hr : ∀ g, r = some g → w.heap.size ≤ g) : w.grownBy w' none := by
  cases r with
  | none => exact gtr h hk
  | some g => exact grown_new h (hr g rfl) hk
theorem one_kept {W W1 : World} {B : Nat} {ad : Addr} {news : List Value} (hg : W.grownBy W1 (some B)) (hl : ad.block < W.heap.size) (hne : ad.block ≠ B) (h : ∀ j u, news[j]? = some u → W.cell? (ad.add j) = some u) : ∀ j u, news[j]? = some u → W1.cell? (ad.add j) = some u := by
  intro j u hj
  have hb : (ad.add j).block = ad.block := by unfold Addr.add; split <;> rfl
  rw [World.cell?_of_block (w := W) (hg.block _ (by rw [hb]; exact hl) (by rw [hb]; simpa using hne))]
  exact h j u hj
theorem one_at (wr : World) (o1 o2 : Obj) (s : Int) {T : TypeId} {B : Nat} {W1 : World} (hB : B < wr.heap.size) (hg : (((wr.alloc o1).alloc o2).alloc (.cells #[.int .i64 s] T)).grownBy W1 (some B)) :
    ∀ j u, [Value.int .i64 s][j]? = some u → W1.cell? ((⟨wr.heap.size + 1 + 1, 0, none⟩ : Addr).add j) = some u := by
  have e1 : ((wr.alloc o1).alloc o2).heap.size = wr.heap.size + 1 + 1 := by show ((wr.heap.push _).push _).size = _; simp
  have e2 : (((wr.alloc o1).alloc o2).alloc (.cells #[.int .i64 s] T)).heap.size = wr.heap.size + 1 + 1 + 1 := by show (((wr.heap.push _).push _).push _).size = _; simp
  refine one_kept hg (by rw [e2]; show wr.heap.size + 1 + 1 < _; omega) (by show wr.heap.size + 1 + 1 ≠ _; omega) ?_
  have := cell_one_new ((wr.alloc o1).alloc o2) (.int .i64 s) T
  rw [e1] at this
  exact this
set_option maxRecDepth 100000 in
set_option maxHeartbeats 2000000 in
theorem ipub (w : World) (a : Option Addr) (len cap : Nat) (A : Nat → Ans) (hI : AnsIn w a len A) (hW : WfA len A) (hl : len ≤ 2000000) :
    Calls Tryd.prog 24 #[.slice a len cap] w fun e w' => ∃ v, e = .returned v ∧ Pub w' v A len ∧ w.grownBy w' none := by
  have hmm := @run_makeMap Tryd.prog
  obtain ⟨i0, hi, hz0, hz1, hz2⟩ := info_parts info_int
  have HI := Lib.hid hI; have HW := Lib.hid hW; clear hI hW
  go_enter Tryd.func24, Tryd.ntmps24
  go_wp2
  go_loopw [10] (fun i wr => ∃ (k : Nat) (D : DataW Unit), k ≤ len ∧ i = .int .i64 k ∧ Maps.IsMap D ∧ wr.ownsGroups Tryd.prog 79 (w.heap.size + 1) 3 .i64 w.heap.size k D ∧ (∀ f t, wf f = true → wf t = true → Reads D (kl f t) (shs A f t k)) ∧ w.grownBy wr none) (fun i _ => len - (intOf i).toNat)
  case atStart => exact ⟨0, .map [], by omega, rfl, Maps.isMap_empty, World.ownsGroups_made _ _ _ _ _, fun f t _ _ => reads_nil _, Draw.grown_alloc _ _ _⟩
  case round =>
    clear hmm
    obtain ⟨k, D, hk, rfl, hM, hown, hR, hg⟩ := hrel
    have HO := Lib.hid hown; have HG := Lib.hid hg; have HR := Lib.hid hR; clear hown hg hR
    by_cases hlt : k < len
    · rcases HI.out.kept HG.out with h | ⟨b, off, rfl, hb, hc⟩
      · omega
      obtain ⟨hc0, hc1, hc2⟩ := hc k hlt
      clear hc
      have hg3 := gtr (gtr (Draw.grown_alloc wr (.cells #[.int .i64 (A k).f, .int .i64 (A k).t, .int .i64 (A k).s] 77) none) (Draw.grown_alloc _ (.cells #[.int .i64 (A k).f, .int .i64 (A k).t] 79) none)) (Draw.grown_alloc _ (.cells #[.int .i64 (A k).s] 3) none)
      have H3 := Lib.hid (groups_kept HO.out hg3)
      have HG3 := Lib.hid hg3; clear hg3
      obtain ⟨wff, wft, wfs⟩ := HW.out k hlt
      have HKY := Lib.hid (hkeyC wff wft)
      have HF := Lib.hid (And.intro wff (And.intro wft wfs)); clear wff wft wfs
      have hBl : w.heap.size < wr.heap.size := by
        obtain ⟨es, clock, hb, _⟩ := HO.out
        exact (Array.getElem?_eq_some_iff.1 hb).1
      have hB := HG.out.size
      go_wp2_with (first
        | (refine wpList_entry_groups _ rfl _ _ 50 rfl 79 23 3 .i64 lawC und_map zeroI (w.heap.size + 1) w.heap.size k _ rfl H3.out (by unfold maxLen; omega) _ _ rfl HKY.out ?_; intro v zs st w1 hg1 hat hoi hzl hback)
        | (at_builtin; refine wpList_append_own_at _ rfl _ _ 23 rfl (w.heap.size + 1) 3 i0 (.int .i64 0) 1 8 und_ints hi hz0 hz1 hz2 rfl (by decide) v zs.length (zs.map (Value.int .i64)) rfl hoi.1 ⟨wr.heap.size + 1 + 1, 0, none⟩ 1 1 [.int .i64 (A k).s] rfl rfl (one_at wr _ _ _ hBl hg1) (ints_oneCell .i64 [(A k).s]) (by unfold maxLen; omega) (by omega) (by have := hg1.size; simp at this; omega) ?_; intro v' w2 hown' hgrow hnil hloc)
        | (refine wpList_store_back (u := v) (v' := v') _ rfl _ _ _ 50 rfl hback rfl rfl rfl hgrow (hoi.appended hown' HF.out.2.2) (by simp; omega) (hloc.imp id (fun h => ⟨_, h, hg1.size⟩)) ?_; intro w3 hown3 hgrow3)
        | go_in)
      have hz := reads_eq (HR.out _ _ HF.out.1 HF.out.2.1) hoi hat
      have hap := hoi.appended hown' HF.out.2.2
      have hd := hap.datum_pos (H := Unit) (by simp)
      have hnew : ∀ f t, wf f = true → wf t = true → Reads (D.put (kl (A k).f (A k).t) (rowDatum .i64 v' (zs ++ [(A k).s]))) (kl f t) (shs A f t (k + 1)) := by
        intro f t hf ht
        by_cases e : (A k).f = f ∧ (A k).t = t
        · rw [shs_yes e]
          obtain ⟨rfl, rfl⟩ := e
          rw [← hz]
          exact .inr ((Maps.atKey_put_same hM (keyedC.key HKY.out) _ _).trans hd)
        · rw [shs_no e]
          have hne : kl f t ≠ kl (A k).f (A k).t := fun h => e (by obtain ⟨h1, h2⟩ := kl_inj hf ht HF.out.1 HF.out.2.1 h; exact ⟨h1.symm, h2.symm⟩)
          have h0 := HR.out f t hf ht
          unfold Reads at h0 ⊢
          rw [Maps.atKey_put_other hne]
          exact h0
      have hG1 := grown_own HG.out (r := none) HG3.out (by simp)
      have hG2 := grown_own hG1 hg1 (by intro g hg; injection hg with hg; omega)
      have hG3 := grown_own hG2 hgrow (fun g hg => by have := (hoi.1.lt g hg).1; omega)
      have hG4 := Lib.hid (grown_own hG3 hgrow3 (by intro g hg; injection hg with hg; omega))
      have HN := Lib.hid hnew; have HO3 := Lib.hid hown3
      clear hnew hG1 hG2 hG3 hown3 hgrow3 hgrow hown' hap hd hback hoi hat hg1 hloc hnil
      go_roundw
      case rel => exact ⟨k + 1, _, by omega, by go_num, hM.put _ _, HO3.out, HN.out, hG4.out⟩
      case measure => simp [intOf]; omega
    · obtain rfl : k = len := by omega
      go_wp2
      go_ret
      exact ⟨_, rfl, ⟨w.heap.size, w.heap.size + 1, D, rfl, HO.out, HR.out⟩, HG.out⟩
end Mp
end Go.Proofs.YtkklhlffbfgolaaDoor
