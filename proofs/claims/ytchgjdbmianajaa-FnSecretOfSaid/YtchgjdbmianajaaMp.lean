/-
  'm[k] = append(m[k], v)' on a map of slices whose keys are structs: the entry is laid first, and the slice is stored into it behind the append. And: such a map while memory grows.
-/
import Derived.Test.YtchgjdbmianajaaMem
import Derived.Maps.OwnRows
import Derived.Maps.Views
import Derived.WideKeyEntry
import Derived.DeepKeys5
import Derived.Test.YtchgjdbmianajaaKc
import Derived.Test.YtchgjdbmianajaaRows
import Derived.Maps.AppendAt
import Derived.ProofKit
namespace Go.Proofs.Ytchgjdbmianajaa
namespace Me
open Go.ChangeMaps Go.MapKept Go.ChangeShapes Go.RowKit
open Go.WideElems (Fit rd rg pl rd_val elemAt entry_then_store)
open Go.Maps (Keyed)
open Go.WideMaps (KeyLaw)
set_option linter.unusedVariables false

section
variable {H : Type} {P : Program} {w : World} {t k E : TypeId} {R : Value → Option (DataW H × List MemPlace)} {b : Nat} {es : Array MapEntry} {clock : Nat}

theorem set_inj (hb : w.heap[b]? = some (.map es clock)) {o o' : Obj} (h : setBlock w b o = setBlock w b o') : o = o' := by
  have h1 := heap_setBlock_same hb o
  rw [h, heap_setBlock_same hb o'] at h1
  exact (Option.some.inj h1).symm
theorem set_twice (w : World) (b : Nat) (o o' : Obj) : setBlock (setBlock w b o) b o' = setBlock w b o' := by
  unfold setBlock
  simp [Array.setIfInBounds_setIfInBounds]
theorem key_same : ∀ {l : List MapEntry} {x y : MapEntry}, l.Pairwise (fun x y => x.key ≠ y.key) → x ∈ l → y ∈ l → x.key = y.key → x = y
  | [], _, _, _, h, _, _ => by simp at h
  | a :: r, x, y, hp, hx, hy, e => by
    obtain ⟨h1, h2⟩ := List.pairwise_cons.1 hp
    rcases List.mem_cons.1 hx with e1 | mx
    · rcases List.mem_cons.1 hy with e2 | my
      · rw [e1, e2]
      · subst e1; exact absurd e (h1 y my)
    · rcases List.mem_cons.1 hy with e2 | my
      · subst e2; exact absurd e.symm (h1 x mx)
      · exact key_same h2 mx my e
theorem nth_same : ∀ {l : List MapEntry} {i j : Nat} {x y : MapEntry}, l.Pairwise (fun x y => x.key ≠ y.key) → l[i]? = some x → l[j]? = some y → x.key = y.key → i = j
  | [], _, _, _, _, _, h, _, _ => by simp at h
  | a :: r, 0, 0, _, _, _, _, _, _ => rfl
  | a :: r, 0, j + 1, x, y, hp, hx, hy, e => by
    simp at hx hy
    subst hx
    exact absurd e ((List.pairwise_cons.1 hp).1 y (List.mem_of_getElem? hy))
  | a :: r, i + 1, 0, x, y, hp, hx, hy, e => by
    simp at hx hy
    subst hy
    exact absurd e.symm ((List.pairwise_cons.1 hp).1 x (List.mem_of_getElem? hx))
  | a :: r, i + 1, j + 1, x, y, hp, hx, hy, e => by
    simp at hx hy
    rw [nth_same (List.pairwise_cons.1 hp).2 hx hy e]

/-- A store into a map turns on that map's block alone. -/
theorem upd_same (K : KeyLaw P k) (ht : P.underlying t = some (.map k E)) {w' : World} (hb : w.heap[b]? = some (.map es clock)) (hb' : w'.heap[b]? = some (.map es clock)) (F : Fit P k R es clock)
    {key val : Value} {kl : Lit} (hkey : keyOf P k key = some kl) {o : Obj} (h : (Instr.mapUpdate t (.map (some b)) key val).run P w = .ok () (setBlock w b o)) :
    (Instr.mapUpdate t (.map (some b)) key val).run P w' = .ok () (setBlock w' b o) := by
  have hn := ((stamped_iff es clock).1 F.stamped).2.2
  rcases K.find w hkey es.toList F.keys with ⟨h1, h2⟩ | ⟨j, e0, h1, h2, h3⟩
  · have hr : (Instr.mapUpdate t (.map (some b)) key val).run P w = .ok () (setBlock w b (.map (es.push ⟨key, val, clock⟩) (clock + 1))) := by
      simp [Instr.mapUpdate, run_underlying ht, MapKept.run_getObj_map hb, K.check w false hkey, h1, MapKept.run_setObj_map _ hb, Result.andThen, setBlock]
    rw [hr] at h
    injection h with _ h
    obtain rfl := set_inj hb h
    rcases K.find w' hkey es.toList F.keys with ⟨g1, g2⟩ | ⟨j', e1, g1, g2, g3⟩
    · simp [Instr.mapUpdate, run_underlying ht, MapKept.run_getObj_map hb', K.check w' false hkey, g1, MapKept.run_setObj_map _ hb', Result.andThen, setBlock]
    · exact absurd g3 (h2 e1 (List.mem_of_getElem? g2))
  · have hj : es[j]? = some e0 := by simpa using h2
    have hr : (Instr.mapUpdate t (.map (some b)) key val).run P w = .ok () (setBlock w b (.map (es.modify j (fun e' => { e' with key := key, val := val })) clock)) := by
      simp [Instr.mapUpdate, run_underlying ht, MapKept.run_getObj_map hb, K.check w false hkey, h1, hj, h3, K.stays w hkey, MapKept.run_setObj_map _ hb, Result.andThen, setBlock]
    rw [hr] at h
    injection h with _ h
    obtain rfl := set_inj hb h
    rcases K.find w' hkey es.toList F.keys with ⟨g1, g2⟩ | ⟨j', e1, g1, g2, g3⟩
    · exact absurd h3 (g2 e0 (List.mem_of_getElem? h2))
    · obtain rfl := nth_same hn h2 g2 (h3.trans g3.symm)
      obtain rfl : e0 = e1 := by rw [h2] at g2; exact Option.some.inj g2
      simp [Instr.mapUpdate, run_underlying ht, MapKept.run_getObj_map hb', K.check w' false hkey, g1, hj, h3, K.stays w' hkey, MapKept.run_setObj_map _ hb', Result.andThen, setBlock]

variable {base : Nat} {e : TypeId} {q : IntKind} {n : Nat} {D : DataW H}
/-- A map of slices while memory grows. -/
theorem groups_kept {w' : World} (h : w.ownsGroups P k base e q b n D) (hg : w.grownBy w' none) : w'.ownsGroups P k base e q b n D := by
  obtain ⟨es, clock, hb, F, hs, rfl, hbb, hlen, hap⟩ := h
  have hlt : b < w.heap.size := (Array.getElem?_eq_some_iff.1 hb).1
  have kp : ∀ {x : Value} {zs : List Int}, w.ownsInts base e q x zs → w'.ownsInts base e q x zs := fun {x zs} ho => ho.kept hg (by cases x.ownBlock <;> simp)
  have hs1 : ∀ x ∈ es.toList, ∀ z, rowElem (H := H) w base e q x.val = some z → rowElem w' base e q x.val = some z := by
    intro x _ z hz
    obtain ⟨zs, ho, rfl⟩ := rowElem_inv hz
    exact rowElem_mk (kp ho)
  obtain ⟨F1, hmap, _⟩ := F.stay hs1
  refine ⟨es, clock, (hg.block b hlt (by simp)).trans hb, F1, hs, by rw [hmap], hbb, ?_, hap⟩
  intro x hx zs hz
  obtain ⟨y, hy⟩ := F.reads x hx
  obtain ⟨z, hz', _⟩ := rd_val hy
  obtain ⟨zs0, ho, _⟩ := rowElem_inv hz'
  rw [hz.unique (kp ho)]
  exact hlen x hx zs0 ho

/-- The way back from the entry: whatever is done from here to the slice's own row and to new blocks alone, the store into the entry makes the map one of slices again. -/
def Back (w w1 : World) (P : Program) (t k : TypeId) (base : Nat) (e : TypeId) (q : IntKind) (b n : Nat) (D : DataW H) (kl : Lit) (v : Value) (st : Nat) : Prop :=
  ∀ (w2 : World) (v' : Value) (zs' : List Int), w1.grownBy w2 v.ownBlock → w2.ownsInts base e q v' zs' → zs'.length ≤ n + 1 → (v'.ownBlock = v.ownBlock ∨ ∃ g, v'.ownBlock = some g ∧ w.heap.size ≤ g) →
    ∃ w3, (Instr.entryStore t (.map (some b)) (.int .i64 (st : Int)) v').run P w2 = .ok () w3 ∧ w3.ownsGroups P k base e q b (n + 1) (D.put kl (rowDatum q v' zs')) ∧ w2.grownBy w3 (some b)

theorem own_ne {w : World} {v : Value} {zs : List Int} (h : w.ownsInts base e q v zs) (hb : b < base) : v.ownBlock = none ∨ v.ownBlock ≠ some b := by
  cases hv : v.ownBlock with
  | none => exact Or.inl rfl
  | some g =>
    refine Or.inr (fun e1 => ?_)
    have := (h.1.lt g hv).1
    cases e1
    omega
theorem grown_set (w : World) {b : Nat} {es : Array MapEntry} {clock : Nat} (hb : w.heap[b]? = some (.map es clock)) (o : Obj) : w.grownBy (setBlock w b o) (some b) :=
  ⟨rfl, rfl, rfl, by simp [setBlock], fun i _ hi => heap_setBlock_other hb o (fun e1 => hi (by rw [e1]))⟩
theorem groups_entry {key : Value} {kl : Lit} (h : w.ownsGroups P k base e q b n D) (K : KeyLaw P k) (ht : P.underlying t = some (.map k E)) (hz : ∀ u : World, (zeroValue E).run P u = .ok (.slice none 0 0) u) (hn : n < maxLen) (hkey : keyOf P k key = some kl) :
    ∃ v zs st w1, (Instr.mapEntry t (.map (some b)) key).run P w = .ok (.tuple #[v, .int .i64 ((st : Nat) : Int)]) w1 ∧ w.grownBy w1 (some b) ∧ D.atKey kl .nil = rowDatum q v zs ∧ w1.ownsInts base e q v zs ∧ zs.length ≤ n ∧ Back w w1 P t k base e q b n D kl v st := by
  obtain ⟨v, zs, hlook, hat, ho, hzl, hback⟩ := h.at (Keyed.of_law K) ht (hz w) hn hkey
  obtain ⟨es, clock, hb, F, hs, hD, hbb, hlen, hap⟩ := h
  obtain ⟨v0, st, es1, clock1, hrun, hv0, hst⟩ := entry_then_store K ht hz hb F hkey
  have hkn := ((stamped_iff es clock).1 F.stamped).2.2
  have hvv : v0 = v := by
    rcases Maps.fit_look false (Keyed.of_law K) ht (hz w) hb F hkey with ⟨hr, hno, _⟩ | ⟨e0, y, hm0, h3, hr, _, _, _⟩
    · rw [hr] at hlook
      injection hlook with hlook _
      rcases hv0 with ⟨x, hx, hxk, _⟩ | ⟨_, hv0⟩
      · exact absurd hxk (hno x hx)
      · rw [hv0]; simpa using hlook
    · rw [hr] at hlook
      injection hlook with hlook _
      rcases hv0 with ⟨x, hx, hxk, hv0⟩ | ⟨hno, _⟩
      · obtain rfl := key_same hkn hx hm0 (hxk.trans h3.symm)
        rw [hv0]; simpa using hlook
      · exact absurd h3 (hno e0 hm0)
  subst hvv
  have g1 := grown_set w hb (.map es1 clock1)
  have hob := own_ne ho hbb
  have hbv : some b ≠ v0.ownBlock := fun e1 => by rcases hob with h' | h' <;> rw [← e1] at h' <;> simp at h'
  refine ⟨v0, zs, st, _, hrun, g1, hat, ho.kept g1 hob, hzl, ?_⟩
  intro w2 v' zs' hg hown' hl' hloc
  have hblt : b < w.heap.size := (Array.getElem?_eq_some_iff.1 hb).1
  have hw2b : w2.heap[b]? = some (.map es1 clock1) := (hg.block b (Nat.lt_of_lt_of_le hblt g1.size) hbv).trans (heap_setBlock_same hb _)
  have hub : (setBlock w2 b (.map es clock)).heap[b]? = some (.map es clock) := heap_setBlock_same hw2b _
  have hu : w.grownBy (setBlock w2 b (.map es clock)) v0.ownBlock := by
    refine ⟨hg.os, hg.tape, hg.output, ?_, fun i hi hne => ?_⟩
    · have h1 := hg.size; have h2 := g1.size
      simp [setBlock]; omega
    · by_cases hib : i = b
      · subst hib; rw [hub, hb]
      · rw [heap_setBlock_other hw2b _ hib, hg.block i (Nat.lt_of_lt_of_le hi g1.size) hne, heap_setBlock_other hb _ hib]
  obtain ⟨u3, hrun3, hG, _⟩ := hback _ v' zs' hu (hown'.kept (grown_set w2 hw2b _) (own_ne hown' hbb)) hl' hloc
  obtain ⟨es', clock', hes, hup⟩ := hst w2 v' hw2b
  rw [upd_same K ht hb hub F hkey hup] at hrun3
  injection hrun3 with _ hrun3
  rw [set_twice] at hrun3
  rw [← hrun3] at hG
  exact ⟨_, hes, hG, grown_set w2 hw2b _⟩
end

/-- The entry at the operation. -/
theorem wpList_entry_groups {H : Type} {P : Program} (w : World) {ops : Array Oper} {rest : List Oper} {o : Oper} {a : Act} {Q : Exit → Act → World → Prop}
    (hg : o.guard = none) (m x : Operand) (t : TypeId) (hop : o.op = Op.mapEntry t m x)
    (k E e : TypeId) (q : IntKind) (K : KeyLaw P k) (ht : P.underlying t = some (.map k E)) (hz : ∀ u : World, (zeroValue E).run P u = .ok (.slice none 0 0) u) (base b n : Nat) (D : DataW H)
    (hm : a.eval m = .map (some b)) (hown : w.ownsGroups P k base e q b n D) (hn : n < maxLen) (key : Value) (kl : Lit) (hx : a.eval x = key) (hkey : keyOf P k key = some kl)
    (hK : ∀ v zs st w1, w.grownBy w1 (some b) → D.atKey kl .nil = rowDatum q v zs → w1.ownsInts base e q v zs → zs.length ≤ n → Back w w1 P t k base e q b n D kl v st → wpList P ops Q rest (a.put o.dst (.tuple #[v, .int .i64 ((st : Nat) : Int)])) w1) :
    wpList P ops Q (o :: rest) a w := by
  refine wpList_plain hg fun K' hK' => ?_
  obtain ⟨v, zs, st, w1, hrun, hgr, hat, hoi, hzl, hback⟩ := groups_entry hown K ht hz hn hkey
  unfold Oper.wp
  simp [execOp, hop, hm, hx, hrun, Result.andThen]
  exact hK' _ _ (hK v zs st w1 hgr hat hoi hzl hback)

/-- The store into the entry at the operation. -/
theorem wpList_store_back {H : Type} {P : Program} (w : World) {ops : Array Oper} {rest : List Oper} {o : Oper} {a : Act} {Q : Exit → Act → World → Prop}
    (hg : o.guard = none) (m s v : Operand) (t : TypeId) (hop : o.op = Op.entryStore t m s v)
    {w0 w1 : World} {k : TypeId} {base : Nat} {e : TypeId} {q : IntKind} {b n st : Nat} {D : DataW H} {kl : Lit} {u v' : Value} {zs' : List Int}
    (hback : Back w0 w1 P t k base e q b n D kl u st) (hm : a.eval m = .map (some b)) (hs : a.eval s = .int .i64 (st : Int)) (hv : a.eval v = v')
    (hgr : w1.grownBy w u.ownBlock) (hown' : w.ownsInts base e q v' zs') (hl' : zs'.length ≤ n + 1) (hloc : v'.ownBlock = u.ownBlock ∨ ∃ g, v'.ownBlock = some g ∧ w0.heap.size ≤ g)
    (hK : ∀ w2, w2.ownsGroups P k base e q b (n + 1) (D.put kl (rowDatum q v' zs')) → w.grownBy w2 (some b) → wpList P ops Q rest (a.put o.dst undef) w2) :
    wpList P ops Q (o :: rest) a w := by
  refine wpList_plain hg fun K' hK' => ?_
  obtain ⟨w2, hrun, r1, r2⟩ := hback w v' zs' hgr hown' hl' hloc
  unfold Oper.wp
  simp [execOp, hop, hm, hs, hv, hrun, Result.andThen]
  exact hK' _ _ (hK w2 r1 r2)
end Me
end Go.Proofs.Ytchgjdbmianajaa
/-
  What dealers have published: the program's map of the answered shares, by dealer and member, by its contract.
-/

namespace Go.Proofs.Ytchgjdbmianajaa
namespace Mp
open Go.RowKit Alg Mem Con Me
open Go.ChangeShapes (lits)
set_option linter.unusedVariables false

/-- An answer. -/
structure Ans where
  f : Int
  t : Int
  s : Int
/-- The shares that the first k answers give, of a dealer to a member. -/
def shs (A : Nat → Ans) (f t : Int) : Nat → List Int
  | 0 => []
  | k + 1 => shs A f t k ++ (if (A k).f = f ∧ (A k).t = t then [(A k).s] else [])
theorem shs_len (A : Nat → Ans) (f t : Int) (k : Nat) : (shs A f t k).length ≤ k := by
  induction k with
  | zero => simp [shs]
  | succ k ih => simp only [shs, List.length_append]; split <;> simp <;> omega
theorem shs_yes {A : Nat → Ans} {f t : Int} {k : Nat} (h : (A k).f = f ∧ (A k).t = t) : shs A f t (k + 1) = shs A f t k ++ [(A k).s] := by simp [shs, h]
theorem shs_no {A : Nat → Ans} {f t : Int} {k : Nat} (h : ¬ ((A k).f = f ∧ (A k).t = t)) : shs A f t (k + 1) = shs A f t k := by simp [shs, h]
abbrev wf (n : Int) : Bool := (Lit.int .i64 n).wf
/-- Answers in memory. -/
def AnsIn (w : World) (a : Option Addr) (len : Nat) (A : Nat → Ans) : Prop :=
  len = 0 ∨ ∃ b off, a = some ⟨b, off, none⟩ ∧ b < w.heap.size ∧ ∀ j, j < len → w.cell? ⟨b, off + j * 3, none⟩ = some (.int .i64 (A j).f) ∧ w.cell? ⟨b, off + j * 3 + 1, none⟩ = some (.int .i64 (A j).t) ∧ w.cell? ⟨b, off + j * 3 + 2, none⟩ = some (.int .i64 (A j).s)
def WfA (len : Nat) (A : Nat → Ans) : Prop := ∀ j, j < len → wf (A j).f = true ∧ wf (A j).t = true ∧ wf (A j).s = true
theorem AnsIn.keptB {w w' : World} {a : Option Addr} {len : Nat} {A : Nat → Ans} (h : AnsIn w a len A) (hb : ∀ k, k < w.heap.size → w'.heap[k]? = w.heap[k]?) (hs : w.heap.size ≤ w'.heap.size) : AnsIn w' a len A := by
  rcases h with h | ⟨b, off, ha, hl, hc⟩
  · exact .inl h
  · refine .inr ⟨b, off, ha, by omega, fun j hj => ?_⟩
    rw [World.cell?_of_block (w := w) (w' := w') (hb b hl), World.cell?_of_block (w := w) (w' := w') (hb b hl), World.cell?_of_block (w := w) (w' := w') (hb b hl)]
    exact hc j hj
theorem AnsIn.kept {w w' : World} {a : Option Addr} {len : Nat} {A : Nat → Ans} (h : AnsIn w a len A) (hg : w.grownBy w' none) : AnsIn w' a len A := h.keptB (fun k hk => hg.block k hk (by simp)) hg.size

theorem laidOut : laidOutB Try.prog = true := by kernel_rfl
theorem zeroI (w : World) : (zeroValue 23).run Try.prog w = .ok (.slice none 0 0) w := by kernel_rfl
theorem typesC : ∃ m, Try.prog.types.size = m + 2 := ⟨Try.prog.types.size - 2, by kernel_rfl⟩
/-- What a key reads as. -/
def kl (f t : Int) : Lit := .string (keyBytes [.int .i64 f, .int .i64 t])
/-- What a map holds at a key: these numbers. -/
def Reads (D : DataW Unit) (k : Lit) (zs : List Int) : Prop := (D.atKey k .nil = .nil ∧ zs = []) ∨ D.atKey k .nil = .slice (lits .i64 zs) []
theorem lits_inj {zs ys : List Int} (h : lits (H := Unit) .i64 zs = lits .i64 ys) : zs = ys := by
  unfold lits at h
  exact (List.map_inj_right (fun a b hab => by injection hab with hab; injection hab)).1 h
theorem reads_eq {w : World} {base : Nat} {e : TypeId} {D : DataW Unit} {k : Lit} {v : Value} {zs ys : List Int} (h : Reads D k ys) (ho : w.ownsInts base e .i64 v zs) (hat : D.atKey k .nil = rowDatum .i64 v zs) : zs = ys := by
  rcases ho.datum (H := Unit) with ⟨h1, e1⟩ | h1 <;> rcases h with ⟨h2, e2⟩ | h2 <;> rw [hat, h1] at h2
  · rw [e1, e2]
  · cases h2
  · cases h2
  · injection h2 with h2 _; exact lits_inj h2
theorem reads_nil (k : Lit) : Reads (.map []) k [] := .inl ⟨rfl, rfl⟩
theorem grown_own {w wr w' : World} {r : Option Nat} (h : w.grownBy wr none) (hk : wr.grownBy w' r) (hr : ∀ g, r = some g → w.heap.size ≤ g) : w.grownBy w' none := by
  cases r with
  | none => exact gtr h hk
  | some g => exact grown_new h (hr g rfl) hk
theorem one_kept {W W1 : World} {B : Nat} {ad : Addr} {news : List Value} (hg : W.grownBy W1 (some B)) (hl : ad.block < W.heap.size) (hne : ad.block ≠ B) (h : ∀ j u, news[j]? = some u → W.cell? (ad.add j) = some u) : ∀ j u, news[j]? = some u → W1.cell? (ad.add j) = some u := by
  intro j u hj
  have hb : (ad.add j).block = ad.block := by unfold Addr.add; split <;> rfl
  rw [World.cell?_of_block (w := W) (hg.block _ (by rw [hb]; exact hl) (by rw [hb]; simpa using hne))]
  exact h j u hj
theorem one_at (wr : World) (o1 o2 : Obj) (s : Int) {T : TypeId} {B : Nat} {W1 : World} (hB : B < wr.heap.size) (hg : (((wr.alloc o1).alloc o2).alloc (.cells #[.int .i64 s] T)).grownBy W1 (some B)) :
    ∀ j u, [Value.int .i64 s][j]? = some u → W1.cell? ((⟨wr.heap.size + 1 + 1, 0, none⟩ : Addr).add j) = some u := by
  have e1 : ((wr.alloc o1).alloc o2).heap.size = wr.heap.size + 1 + 1 := by show ((wr.heap.push _).push _).size = _; simp
  have e2 : (((wr.alloc o1).alloc o2).alloc (.cells #[.int .i64 s] T)).heap.size = wr.heap.size + 1 + 1 + 1 := by show (((wr.heap.push _).push _).push _).size = _; simp
  refine one_kept hg (by rw [e2]; show wr.heap.size + 1 + 1 < _; omega) (by show wr.heap.size + 1 + 1 ≠ _; omega) ?_
  have := cell_one_new ((wr.alloc o1).alloc o2) (.int .i64 s) T
  rw [e1] at this
  exact this
end Mp
end Go.Proofs.Ytchgjdbmianajaa
