/-
  How the model draws a key, with deals and answers.
-/
import Derived.Test.YtbfmigmhmjgdgaaQe
import Derived.Test.YtbfmigmhmjgdgaaDo
import Derived.Test.YtbfmigmhmjgdgaaMem
import Derived.RegionTactic
namespace Go.Proofs.Ytbfmigmhmjgdgaa
namespace Draw
open Go.RowKit Alg Mem Con Mp
set_option linter.unusedVariables false

theorem owns_lower {w : World} {lo lo' k n : Nat} {T : TypeId} {v : Value} {xs : List Value} (h : w.ownsRow lo T k v n xs) (hl : lo' ≤ lo) : w.ownsRow lo' T k v n xs := by
  obtain ⟨h1, h2⟩ := h
  rcases h2 with h2 | ⟨g, cap, cur, hv, hb, hr⟩
  · exact ⟨h1, .inl h2⟩
  · exact ⟨h1, .inr ⟨g, cap, cur, hv, Nat.le_trans hl hb, hr⟩⟩
/-- A key's parts, of the call's own. -/
structure KeyIn (w w' : World) (need many : Nat) (ag : Option Addr) (ng : Nat) (zg : Nat → Int) (ac : Option Addr) (nc : Nat) (zc : Nat → Int) : Prop where
  n5 : need ≤ 5
  m5 : many ≤ 6
  g6 : ng ≤ 6
  c5 : nc ≤ 6
  ig : Ints w' ag ng zg
  ic : Ints w' ac nc zc
  rg : ∀ b off, ag = some ⟨b, off, none⟩ → w.heap.size ≤ b ∧ b < w'.heap.size
  rc : ∀ b off, ac = some ⟨b, off, none⟩ → w.heap.size ≤ b ∧ b < w'.heap.size
theorem KeyIn.kept {w w' W : World} {need many : Nat} {ag : Option Addr} {ng : Nat} {zg : Nat → Int} {ac : Option Addr} {nc : Nat} {zc : Nat → Int} {r : Option Nat} (h : KeyIn w w' need many ag ng zg ac nc zc) (hg : w'.grownBy W r) (hr : ∀ g, r = some g → g < w.heap.size) : KeyIn w W need many ag ng zg ac nc zc :=
  ⟨h.n5, h.m5, h.g6, h.c5, ints_keptR h.ig hg h.rg (fun g e => .inl (hr g e)), ints_keptR h.ic hg h.rc (fun g e => .inl (hr g e)), (fun b off e => by have := h.rg b off e; have := hg.size; omega), (fun b off e => by have := h.rc b off e; have := hg.size; omega)⟩
theorem KeyIn.lower {v w w' : World} {need many : Nat} {ag : Option Addr} {ng : Nat} {zg : Nat → Int} {ac : Option Addr} {nc : Nat} {zc : Nat → Int} (h : KeyIn w w' need many ag ng zg ac nc zc) (hg : v.heap.size ≤ w.heap.size) : KeyIn v w' need many ag ng zg ac nc zc :=
  ⟨h.n5, h.m5, h.g6, h.c5, h.ig, h.ic, (fun b off e => by have := h.rg b off e; omega), (fun b off e => by have := h.rc b off e; omega)⟩
theorem fine_hyp {L : List DV} (h : ∀ x ∈ L, FineD x) : ∀ j, j < L.length → (dAt L j).n1 ≤ 2000000 ∧ (dAt L j).n2 ≤ 6 ∧ (∀ i, i < (dAt L j).n2 → (dAt L j).z2 i ≤ 1000000) ∧ wf (dAt L j).f = true := fun j hj => by
  obtain ⟨h1, h2, h3, h4, h5⟩ := h _ (dAt_mem hj)
  exact ⟨by omega, by omega, fun i hi => by have h := (fok_iff.1 (h3 i hi)).2; omega, wf_few (by omega) (by omega)⟩
theorem lg_gof {n : Int} (h : fok n = true) : lg (gofF n) = n :=
  one (P := fun n => lg (gofF n) = n) (by decide +kernel) h
theorem gz_cok {n : Nat} {z : Nat → Int} (hz : ∀ j, j < n → fok (z j) = true) (h1 : 1 ≤ n) (h5 : n ≤ 5) : cokz n (gz z) = true :=
  cokz_iff.2 ⟨h1, h5, fun j hj => gof_ok (hz j hj)⟩
theorem fl_gz {n : Nat} {z : Nat → Int} (hz : ∀ j, j < n → fok (z j) = true) : fl (lz (gz z)) n = fl z n :=
  fl_congr fun j hj => lg_gof (hz j hj)
theorem shl_get {n : Nat} {z : Nat → Int} {m j : Nat} (h : j < m) : li (shl n z m) j = Pol.fi (Pol.ev (fl z n) (Pol.cv ((j : Int) + 1))) := by
  simp [li, shl, h]
/-- The deal of a polynomial counts. -/
theorem gd_honest {f : Int} {n m : Nat} {z : Nat → Int} {A : Nat → Ans} {na : Nat} (hz : ∀ j, j < n → fok (z j) = true) (h1 : 1 ≤ n) (hnm : n ≤ m) (h5 : m ≤ 5) (hf : 1 ≤ f) (hfm : f ≤ m) :
    gdF f n (gz z) m (li (shl n z m)) A na n m = true := by
  have hc := gz_cok hz h1 (by omega)
  refine gd_y (dl_yes (by simp [deF]; omega) (by simp [crewF]; omega) rfl hc ?_) hfm ?_
  · simp only [shF, Bool.and_eq_true, decide_eq_true_eq, true_and]
    exact okz_iff.2 fun j hj => shl_ok hj
  · rw [accs_iff]; intro j hj
    have hx : fok ((j : Int) + 1) = true := fok_iff.2 (by omega)
    rw [acc_dealt]
    · rfl
    · rw [cfz_in hc hx (shl_ok hj), catz_in hc hx, fl_gz hz, shl_get hj]; simp
/-- Deals that count, one of each in order. -/
def HonL (L : List DV) (n m : Nat) : Prop := ∀ j, j < L.length → (dAt L j).f = (j : Int) + 1 ∧ gdF (dAt L j).f (dAt L j).n1 (dAt L j).z1 (dAt L j).n2 (dAt L j).z2 (aAt []) 0 n m = true
theorem HonL.app {L : List DV} {n m : Nat} {x : DV} (h : HonL L n m) (hf : x.f = (L.length : Int) + 1) (hg : gdF x.f x.n1 x.z1 x.n2 x.z2 (aAt []) 0 n m = true) : HonL (L ++ [x]) n m := by
  intro j hj
  by_cases hlt : j < L.length
  · rw [show dAt (L ++ [x]) j = dAt L j by simp [dAt, List.getElem?_append_left hlt]]
    exact h j hlt
  · obtain rfl : j = L.length := by simp at hj; omega
    rw [show dAt (L ++ [x]) L.length = x by simp [dAt]]
    exact ⟨hf, hg⟩
theorem HonL.hon {L : List DV} {n m k : Nat} (h : HonL L n m) (h5 : k ≤ 5) (hk : L.length = k) : Hon (dAt L) k (aAt []) 0 n m := by
  subst hk
  refine ⟨?_, fun j hj => (h j hj).2⟩
  rw [ds_in h5, upz_iff]
  intro j hj
  by_cases h0 : j = 0
  · exact .inl h0
  · refine .inr ?_
    show (dAt L (j - 1)).f < (dAt L j).f
    rw [(h j hj).1, (h (j - 1) (by omega)).1]; omega
/-- A key's parts carried to any world in which their blocks stand as they stood. -/
theorem ints_same {w W : World} {a : Option Addr} {len lo hi : Nat} {z : Nat → Int} (h : Ints w a len z) (hb : ∀ b off, a = some ⟨b, off, none⟩ → lo ≤ b ∧ b < hi) (hs : ∀ k, lo ≤ k → k < hi → W.heap[k]? = w.heap[k]?) (hz : w.heap.size ≤ W.heap.size) : Ints W a len z := by
  rcases h with h | ⟨b, off, ha, hl, hc⟩
  · exact .inl h
  · obtain ⟨l1, l2⟩ := hb b off ha
    exact .inr ⟨b, off, ha, by omega, fun j hj => (World.cell?_of_block (hs b l1 l2)).trans (hc j hj)⟩
/-- What stands between two sizes. -/
def Same (lo hi : Nat) (w W : World) : Prop := (∀ k, lo ≤ k → k < hi → W.heap[k]? = w.heap[k]?) ∧ w.heap.size ≤ W.heap.size
theorem Same.grown {lo hi : Nat} {w W W' : World} {r : Option Nat} (h : Same lo hi w W) (hh : hi ≤ w.heap.size) (hg : W.grownBy W' r) (hr : ∀ g, r = some g → g < lo ∨ hi ≤ g) : Same lo hi w W' :=
  ⟨fun k h1 h2 => (hg.block k (by have := h.2; omega) (by intro e; have := hr k e.symm; omega)).trans (h.1 k h1 h2), Nat.le_trans h.2 hg.size⟩
theorem Same.rfl' {lo hi : Nat} {w : World} : Same lo hi w w := ⟨fun _ _ _ => rfl, Nat.le_refl _⟩
end Draw
end Go.Proofs.Ytbfmigmhmjgdgaa
/-
  How the model draws a key with the shares of all members, and one of them.
-/

namespace Go.Proofs.Ytbfmigmhmjgdgaa
namespace Draw
open Go.RowKit Alg Mem Con Mp
set_option linter.unusedVariables false

/-- Members from one on, with their shares. -/
def hzs (hz : Nat → Int) : Nat → List Int
  | 0 => []
  | k + 1 => hzs hz k ++ [(k : Int) + 1, hz k]
theorem hzs_len (hz : Nat → Int) : ∀ k, (hzs hz k).length = k * 2
  | 0 => rfl
  | k + 1 => by simp only [hzs, List.length_append, hzs_len hz k]; simp; omega
theorem hzs_get (hz : Nat → Int) : ∀ {n j : Nat}, j < n → (hzs hz n)[j * 2]? = some ((j : Int) + 1) ∧ (hzs hz n)[j * 2 + 1]? = some (hz j)
  | 0, j, h => by omega
  | n + 1, j, h => by
    have hl := hzs_len hz n
    rcases (by omega : j < n ∨ j = n) with h' | rfl
    · have h1 := hzs_get hz h'
      exact ⟨by rw [hzs, List.getElem?_append_left (by omega)]; exact h1.1, by rw [hzs, List.getElem?_append_left (by omega)]; exact h1.2⟩
    · exact ⟨by rw [hzs, List.getElem?_append_right (by omega), hl]; simp, by rw [hzs, List.getElem?_append_right (by omega), hl]; simp⟩
theorem hzs_congr {hz hz' : Nat → Int} : ∀ {k : Nat}, (∀ j, j < k → hz j = hz' j) → hzs hz k = hzs hz' k
  | 0, _ => rfl
  | k + 1, h => by rw [hzs, hzs, hzs_congr (k := k) fun j hj => h j (by omega), h k (by omega)]
theorem hzs_set (hz : Nat → Int) (z : Int) {m : Nat} : ∀ {k : Nat}, m < k → (hzs hz k).set (m * 2 + 1) z = hzs (fun j => if j = m then z else hz j) k
  | 0, h => by omega
  | k + 1, h => by
    have hl := hzs_len hz k
    rcases (by omega : m < k ∨ m = k) with h' | rfl
    · rw [hzs, hzs, List.set_append_left _ _ (by omega), hzs_set hz z h', if_neg (by omega)]
    · rw [hzs, hzs, List.set_append_right _ _ (by omega), hl, hzs_congr (hz' := hz) fun j hj => if_neg (by omega)]; simp
theorem ks_fok {ng : Nat} {zg : Nat → Int} {need many : Int} {D : Nat → DV} {na : Nat} {A : Nat → Ans} {m : Nat} : ∀ {k : Nat} {n : Int}, ksF ng zg need many D na A m k = some n → fok n = true
  | 0, n, h => by injection h with h; subst h; rfl
  | k + 1, n, h => by
    rw [ksF] at h
    split at h
    · cases h
    · rename_i n' hn
      split at h
      · split at h
        · cases ha : acc (cfz (D k).n1 (D k).z1 ((m : Int) + 1)) ((D k).z2 m) (shs A (D k).f ((m : Int) + 1) na) with
          | none => rw [ha] at h; cases h
          | some s => rw [ha] at h; injection h with h; subst h; exact sumF_ok _ _
        · cases h
      · injection h with h; subst h; exact ks_fok hn
theorem ksh_fok {need many : Int} {ng : Nat} {zg : Nat → Int} {nc : Nat} {zc : Nat → Int} {D : Nat → DV} {nd : Nat} {A : Nat → Ans} {na : Nat} {m n : Int} (h : kshF need many ng zg nc zc D nd A na m = some n) : fok n = true := by
  unfold kshF at h; split at h
  · exact ks_fok h
  · cases h
theorem accV_fok {o : Option Int} (h : ∀ n, o = some n → fok n = true) : ∃ s b, accV o = .tuple #[.int .i64 s, .bool b] ∧ fok s = true := by
  cases o with
  | none => exact ⟨0, false, rfl, rfl⟩
  | some s => exact ⟨s, true, rfl, h s rfl⟩
theorem accV_any (o : Option Int) : ∃ s b, accV o = .tuple #[.int .i64 s, .bool b] := by
  cases o with
  | none => exact ⟨0, false, rfl⟩
  | some s => exact ⟨s, true, rfl⟩
/-- A key with one member and a share, drawn from the program's input. -/
def GotF (w : World) (e : Ending) (w' : World) : Prop :=
  ∃ (need many : Nat) (ag : Option Addr) (ng cg : Nat) (zg : Nat → Int) (ac : Option Addr) (nc cc : Nat) (zc : Nat → Int) (m s : Int), e = .returned (.tuple #[.agg #[.int .i64 need, .int .i64 many, .slice ag ng cg, .slice ac nc cc], .int .i64 m, .int .i64 s]) ∧ KeyIn w w' need many ag ng zg ac nc zc ∧ w.grownBy w' none
theorem gotf_drew {w W : World} {R : Nat} {vs : Array Value} {T : TypeId} {e : Ending} (h : Blk W R vs T ∧ GotF w e W) : Blk W.drew R vs T ∧ GotF w e W.drew := by
  obtain ⟨hb, need, many, ag, ng, cg, zg, ac, nc, cc, zc, m, s, he, hk, hg⟩ := h
  exact ⟨hb, need, many, ag, ng, cg, zg, ac, nc, cc, zc, m, s, he, ⟨hk.n5, hk.m5, hk.g6, hk.c5, hk.ig.keptB (fun _ _ => rfl) (Nat.le_refl _), hk.ic.keptB (fun _ _ => rfl) (Nat.le_refl _), hk.rg, hk.rc⟩, ⟨hg.os, hg.tape, hg.output, hg.size, hg.block⟩⟩
end Draw
end Go.Proofs.Ytbfmigmhmjgdgaa
