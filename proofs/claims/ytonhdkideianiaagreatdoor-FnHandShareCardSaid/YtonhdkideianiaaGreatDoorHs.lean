/-
  Handed on: which deals are selected, and a member's share of them; the linked list of them.
-/
import Derived.Test.YtonhdkideianiaaGreatDoorHo
import Derived.Test.YtonhdkideianiaaGreatDoorPk
import Derived.Test.YtonhdkideianiaaGreatDoorKs
import Derived.Test.YtonhdkideianiaaGreatDoorQe
import Derived.Test.YtonhdkideianiaaGreatDoorFs
namespace Go.Proofs.YtonhdkideianiaaGreatDoor
namespace Con
open Go.RowKit Alg Mem Mp
set_option linter.unusedVariables false

/-- The indexes of the first K that are so. -/
def selF (p : Nat → Bool) (K : Nat) : Nat → List Nat
  | 0 => []
  | n + 1 => if (selF p K n).length < K ∧ p n = true then selF p K n ++ [n] else selF p K n
theorem sel_yes {p : Nat → Bool} {K n : Nat} (h : (selF p K n).length < K) (hp : p n = true) : selF p K (n + 1) = selF p K n ++ [n] := by rw [selF, if_pos ⟨h, hp⟩]
theorem sel_no {p : Nat → Bool} {K n : Nat} (h : ¬ ((selF p K n).length < K ∧ p n = true)) : selF p K (n + 1) = selF p K n := by rw [selF, if_neg h]
theorem sel_len (p : Nat → Bool) (K : Nat) : ∀ n, (selF p K n).length ≤ K
  | 0 => Nat.zero_le _
  | n + 1 => by
    by_cases h : (selF p K n).length < K ∧ p n = true
    · rw [selF, if_pos h]; simp; omega
    · rw [selF, if_neg h]; exact sel_len p K n
theorem sel_le (p : Nat → Bool) (K : Nat) : ∀ n, (selF p K n).length ≤ n
  | 0 => Nat.zero_le _
  | n + 1 => by
    by_cases h : (selF p K n).length < K ∧ p n = true
    · rw [selF, if_pos h]; have := sel_le p K n; simp; omega
    · rw [selF, if_neg h]; have := sel_le p K n; omega
theorem sel_full {p : Nat → Bool} {K n : Nat} (h : (selF p K n).length = K) : ∀ {m : Nat}, n ≤ m → selF p K m = selF p K n
  | 0, hm => by rw [Nat.le_zero.1 hm]
  | m + 1, hm => by
    rcases (by omega : n ≤ m ∨ n = m + 1) with h' | rfl
    · rw [sel_no (by rw [sel_full h h']; omega), sel_full h h']
    · rfl
theorem sel_mem {p : Nat → Bool} {K : Nat} : ∀ {n i : Nat}, i ∈ selF p K n → i < n ∧ p i = true
  | 0, i, h => by cases h
  | n + 1, i, h => by
    by_cases hh : (selF p K n).length < K ∧ p n = true
    · rw [selF, if_pos hh] at h
      rcases List.mem_append.1 h with h | h
      · obtain ⟨h1, h2⟩ := sel_mem h; exact ⟨by omega, h2⟩
      · simp at h; subst h; exact ⟨by omega, hh.2⟩
    · rw [selF, if_neg hh] at h
      obtain ⟨h1, h2⟩ := sel_mem h; exact ⟨by omega, h2⟩
theorem sel_up {p : Nat → Bool} {K : Nat} : ∀ {n : Nat}, (selF p K n).Pairwise (· < ·)
  | 0 => List.Pairwise.nil
  | n + 1 => by
    by_cases hh : (selF p K n).length < K ∧ p n = true
    · rw [selF, if_pos hh]
      exact List.pairwise_append.2 ⟨sel_up, List.pairwise_singleton _ _, fun a ha b hb => by simp at hb; subst hb; exact (sel_mem ha).1⟩
    · rw [selF, if_neg hh]; exact sel_up
/-- The index that stands at place i of the selected. -/
def at0 (S : List Nat) (i : Nat) : Nat := S.getD i 0
theorem at0_mem {S : List Nat} {i : Nat} (h : i < S.length) : at0 S i ∈ S := by simp [at0, h]
theorem at0_app {S : List Nat} {k i : Nat} (h : i < S.length) : at0 (S ++ [k]) i = at0 S i := by simp [at0, List.getElem?_append_left h]
theorem at0_last (S : List Nat) (k : Nat) : at0 (S ++ [k]) S.length = k := by simp [at0]
theorem at0_up {S : List Nat} (h : S.Pairwise (· < ·)) {i j : Nat} (hij : i < j) (hj : j < S.length) : at0 S i < at0 S j := by
  have hi : i < S.length := by omega
  simp only [at0, List.getD_eq_getElem?_getD, List.getElem?_eq_getElem hi, List.getElem?_eq_getElem hj, Option.getD_some]
  exact List.pairwise_iff_getElem.1 h i j hi hj hij
theorem up_all {z : Nat → Int} {n : Nat} (h : upz z n = true) : ∀ {j : Nat}, j < n → ∀ i, i < j → z i < z j := by
  have h1 := upz_iff.1 h
  intro j
  induction j with
  | zero => intro _ i hi; omega
  | succ j ih =>
    intro hj i hi
    have h2 := h1 (j + 1) hj
    rcases h2 with h2 | h2
    · omega
    · have h3 : z j < z (j + 1) := h2
      rcases (by omega : i < j ∨ i = j) with h4 | rfl
      · have := ih (by omega) i h4; omega
      · exact h3
section
variable (need many : Int) (ng : Nat) (zg : Nat → Int) (nc : Nat) (zc : Nat → Int) (D : Nat → DV) (dn dm : Int)
/-- Does deal j hand the key on? -/
def hnF (j : Nat) : Bool := hoF need many ng zg nc zc (D j).f (D j).n1 (D j).z1 (D j).n2 (D j).z2 dn dm
/-- The selected of the first n deals. -/
def hsel (n : Nat) : List Nat := selF (hnF need many ng zg nc zc D dn dm) need.toNat n
/-- Is the key handed on? -/
def hsB (nd : Nat) : Bool := kyF need many ng zg nc zc && crewF dn dm && dsF D nd && decide (need ≤ ((hsel need many ng zg nc zc D dn dm nd).length : Int))
end
/-- The dealers of the selected. -/
def hsP (D : Nat → DV) (S : List Nat) (i : Nat) : Int := (D (at0 S i)).f
/-- How often each is taken. -/
def hsL (D : Nat → DV) (S : List Nat) (i : Nat) : Int := zline S.length (hsP D S) 0 i
/-- The sum of so many of them. -/
def hsM (D : Nat → DV) (S : List Nat) (m : Int) : Nat → Int
  | 0 => 0
  | n + 1 => sumF (hsM D S m n) (mulF (hsL D S n) ((D (at0 S n)).z2 (m - 1).toNat))
def hsV (need many : Int) (ng : Nat) (zg : Nat → Int) (nc : Nat) (zc : Nat → Int) (D : Nat → DV) (dn dm : Int) (nd : Nat) (m : Int) : Value :=
  if hsB need many ng zg nc zc D dn dm nd && mbF dm m then .tuple #[.agg #[.int .i64 m, .int .i64 (hsM D (hsel need many ng zg nc zc D dn dm nd) m (hsel need many ng zg nc zc D dn dm nd).length)], .bool true] else .tuple #[.agg #[.int .i64 0, .int .i64 0], .bool false]
section
variable {need many : Int} {ng : Nat} {zg : Nat → Int} {nc : Nat} {zc : Nat → Int} {D : Nat → DV} {dn dm : Int} {nd : Nat} {m : Int}
theorem hsV_yes (h1 : hsB need many ng zg nc zc D dn dm nd = true) (h2 : mbF dm m = true) : hsV need many ng zg nc zc D dn dm nd m = .tuple #[.agg #[.int .i64 m, .int .i64 (hsM D (hsel need many ng zg nc zc D dn dm nd) m (hsel need many ng zg nc zc D dn dm nd).length)], .bool true] := by simp [hsV, h1, h2]
theorem hsV_no (h : hsB need many ng zg nc zc D dn dm nd = false ∨ mbF dm m = false) : hsV need many ng zg nc zc D dn dm nd m = .tuple #[.agg #[.int .i64 0, .int .i64 0], .bool false] := by
  rcases h with h | h <;> simp [hsV, h]
theorem hsB_iff : hsB need many ng zg nc zc D dn dm nd = true ↔ kyF need many ng zg nc zc = true ∧ crewF dn dm = true ∧ dsF D nd = true ∧ need ≤ ((hsel need many ng zg nc zc D dn dm nd).length : Int) := by
  unfold hsB; simp only [Bool.and_eq_true, decide_eq_true_eq, and_assoc]
theorem hsB_not (h : ¬ (kyF need many ng zg nc zc = true ∧ crewF dn dm = true ∧ dsF D nd = true ∧ need ≤ ((hsel need many ng zg nc zc D dn dm nd).length : Int))) : hsB need many ng zg nc zc D dn dm nd = false := by
  cases hh : hsB need many ng zg nc zc D dn dm nd with
  | false => rfl
  | true => exact absurd (hsB_iff.1 hh) h
theorem hsel_len (n : Nat) : (hsel need many ng zg nc zc D dn dm n).length ≤ need.toNat := sel_len _ _ _
theorem hsel_ky {n : Nat} (h : kyF need many ng zg nc zc = false) : hsel need many ng zg nc zc D dn dm n = [] := by
  cases hs : hsel need many ng zg nc zc D dn dm n with
  | nil => rfl
  | cons i r =>
    have := (sel_mem (p := hnF need many ng zg nc zc D dn dm) (K := need.toNat) (n := n) (i := i) (by unfold hsel at hs; rw [hs]; simp)).2
    rw [hnF, ho_iff, h] at this; cases this.1
/-- All selected are well formed; each dealer stands once. -/
theorem hsel_ok {n i : Nat} (hi : i < (hsel need many ng zg nc zc D dn dm n).length) : at0 (hsel need many ng zg nc zc D dn dm n) i < n ∧ dlF (D (at0 (hsel need many ng zg nc zc D dn dm n) i)).f (D (at0 (hsel need many ng zg nc zc D dn dm n) i)).n1 (D (at0 (hsel need many ng zg nc zc D dn dm n) i)).z1 (D (at0 (hsel need many ng zg nc zc D dn dm n) i)).n2 (D (at0 (hsel need many ng zg nc zc D dn dm n) i)).z2 dn dm = true := by
  obtain ⟨h1, h2⟩ := sel_mem (at0_mem hi)
  exact ⟨h1, (ho_iff.1 h2).2.1⟩
theorem hsel_k5 (hk : kyF need many ng zg nc zc = true) (n : Nat) : (hsel need many ng zg nc zc D dn dm n).length ≤ 5 := by
  have h1 := (ky_iff.1 hk).1; have h2 := hsel_len (need := need) (many := many) (ng := ng) (zg := zg) (nc := nc) (zc := zc) (D := D) (dn := dn) (dm := dm) n; omega
theorem hsel_fok {n i : Nat} (hi : i < (hsel need many ng zg nc zc D dn dm n).length) : fok (hsP D (hsel need many ng zg nc zc D dn dm n) i) = true := by
  have h := (dl_iff.1 (hsel_ok hi).2).1
  exact fok_mk (by unfold hsP; omega) (by unfold hsP; omega)
theorem hsel_apart (hd : dsF D nd = true) {i j : Nat} (hi : i < (hsel need many ng zg nc zc D dn dm nd).length) (hj : j < (hsel need many ng zg nc zc D dn dm nd).length) (hij : i ≠ j) : hsP D (hsel need many ng zg nc zc D dn dm nd) i ≠ hsP D (hsel need many ng zg nc zc D dn dm nd) j := by
  have hu : ∀ j, j < nd → ∀ i, i < j → (D i).f < (D j).f := fun j hj i hi => up_all (z := frm D) (ds_iff.1 hd).2 hj i hi
  have key : ∀ {a b : Nat}, a < b → b < (hsel need many ng zg nc zc D dn dm nd).length → hsP D (hsel need many ng zg nc zc D dn dm nd) a < hsP D (hsel need many ng zg nc zc D dn dm nd) b := fun h hb =>
    hu _ (hsel_ok hb).1 _ (at0_up sel_up h hb)
  rcases Nat.lt_or_gt_of_ne hij with h | h
  · have := key h hj; omega
  · have := key h hi; omega
theorem hsel_plok (hk : kyF need many ng zg nc zc = true) (hd : dsF D nd = true) : plok (hsel need many ng zg nc zc D dn dm nd).length (hsP D (hsel need many ng zg nc zc D dn dm nd)) = true :=
  plok_iff.2 ⟨hsel_k5 hk nd, fun j hj => ⟨hsel_fok hj, hasz_no.2 fun i hi => hsel_apart hd (by omega) hj (by omega)⟩⟩
theorem hsel_yes {n : Nat} (h : ((hsel need many ng zg nc zc D dn dm n).length : Int) < need) (hp : hnF need many ng zg nc zc D dn dm n = true) : hsel need many ng zg nc zc D dn dm (n + 1) = hsel need many ng zg nc zc D dn dm n ++ [n] := sel_yes (by unfold hsel at h; omega) hp
theorem hsel_no {n : Nat} (h : hnF need many ng zg nc zc D dn dm n = false) : hsel need many ng zg nc zc D dn dm (n + 1) = hsel need many ng zg nc zc D dn dm n := sel_no (fun h' => by rw [h] at h'; cases h'.2)
theorem hsel_stop {n : Nat} (h : need ≤ ((hsel need many ng zg nc zc D dn dm n).length : Int)) (hm : n ≤ nd) : hsel need many ng zg nc zc D dn dm nd = hsel need many ng zg nc zc D dn dm n :=
  sel_full (by have := sel_len (hnF need many ng zg nc zc D dn dm) need.toNat n; unfold hsel at h; omega) hm
end
def hfB (need many : Int) (ng : Nat) (zg : Nat → Int) (nc : Nat) (zc : Nat → Int) (D : Nat → DV) (dn dm : Int) (nd : Nat) (m : Int) : Bool := hsB need many ng zg nc zc D dn dm nd && mbF dm m
def hfM (need many : Int) (ng : Nat) (zg : Nat → Int) (nc : Nat) (zc : Nat → Int) (D : Nat → DV) (dn dm : Int) (nd : Nat) (m : Int) : Int := if hfB need many ng zg nc zc D dn dm nd m then m else 0
def hfS (need many : Int) (ng : Nat) (zg : Nat → Int) (nc : Nat) (zc : Nat → Int) (D : Nat → DV) (dn dm : Int) (nd : Nat) (m : Int) : Int := if hfB need many ng zg nc zc D dn dm nd m then hsM D (hsel need many ng zg nc zc D dn dm nd) m (hsel need many ng zg nc zc D dn dm nd).length else 0
theorem hsV_eq (need many : Int) (ng : Nat) (zg : Nat → Int) (nc : Nat) (zc : Nat → Int) (D : Nat → DV) (dn dm : Int) (nd : Nat) (m : Int) : hsV need many ng zg nc zc D dn dm nd m = .tuple #[.agg #[.int .i64 (hfM need many ng zg nc zc D dn dm nd m), .int .i64 (hfS need many ng zg nc zc D dn dm nd m)], .bool (hfB need many ng zg nc zc D dn dm nd m)] := by
  unfold hsV hfM hfS
  by_cases h : hfB need many ng zg nc zc D dn dm nd m = true
  · rw [if_pos h, if_pos h, if_pos (by unfold hfB at h; exact h), h]
  · rw [if_neg h, if_neg h, if_neg (by unfold hfB at h; exact h)]
    simp only [Bool.not_eq_true] at h; rw [h]
theorem hsM_re (D : Nat → DV) (B1 B2 : Nat → Nat) (S : List Nat) (m : Int) : ∀ n, hsM (re D B1 B2) S m n = hsM D S m n
  | 0 => rfl
  | n + 1 => by simp only [hsM, hsM_re D B1 B2 S m n]; rfl
theorem hsel_re (need many : Int) (ng : Nat) (zg : Nat → Int) (nc : Nat) (zc : Nat → Int) (D : Nat → DV) (B1 B2 : Nat → Nat) (dn dm : Int) (n : Nat) : hsel need many ng zg nc zc (re D B1 B2) dn dm n = hsel need many ng zg nc zc D dn dm n := rfl
theorem hsV_re (need many : Int) (ng : Nat) (zg : Nat → Int) (nc : Nat) (zc : Nat → Int) (D : Nat → DV) (B1 B2 : Nat → Nat) (dn dm : Int) (nd : Nat) (m : Int) : hsV need many ng zg nc zc (re D B1 B2) dn dm nd m = hsV need many ng zg nc zc D dn dm nd m := by
  unfold hsV hsB; rw [hsM_re, hsel_re, ds_re]
/-! ### the linked list -/
def lnk (B : Nat → Nat) (m j : Nat) : Value := if j < m then .pointer (some ⟨B j, 0, none⟩) else .pointer none
theorem lnk_yes {B : Nat → Nat} {m j : Nat} (h : j < m) : lnk B m j = .pointer (some ⟨B j, 0, none⟩) := if_pos h
theorem lnk_no {B : Nat → Nat} {m j : Nat} (h : m ≤ j) : lnk B m j = .pointer none := if_neg (by omega)
/-- The place that a pointer into the list stands for. -/
noncomputable def lidx (B : Nat → Nat) (m : Nat) (p : Value) : Nat := by
  classical exact if h : ∃ k, k ≤ m ∧ p = lnk B m k then h.choose else 0
theorem lidx_eq {B : Nat → Nat} {m k : Nat} (hne : ∀ i j, i < j → j < m → B i ≠ B j) (hk : k ≤ m) : lidx B m (lnk B m k) = k := by
  have hex : ∃ j, j ≤ m ∧ lnk B m k = lnk B m j := ⟨k, hk, rfl⟩
  unfold lidx
  rw [dif_pos hex]
  obtain ⟨h1, h2⟩ := hex.choose_spec
  generalize hex.choose = q at h1 h2
  by_cases a : k < m <;> by_cases b : q < m
  · rw [lnk_yes a, lnk_yes b] at h2
    injection h2 with h2; injection h2 with h2; injection h2 with h2 _ _
    rcases Nat.lt_trichotomy k q with h | h | h
    · exact absurd h2 (hne _ _ h b)
    · exact h.symm
    · exact absurd h2.symm (hne _ _ h a)
  · rw [lnk_yes a, lnk_no (by omega)] at h2; injection h2 with h2; cases h2
  · rw [lnk_no (by omega), lnk_yes b] at h2; injection h2 with h2; cases h2
  · omega
/-- The handings, each in a block of its own. -/
structure Chn (W : World) (lo : Nat) (D : Nat → DV) (S : List Nat) (B : Nat → Nat) (wt : Nat → Int) : Prop where
  from_ : ∀ j, j < S.length → lo ≤ B j
  box : ∀ j, j < S.length → Blk W (B j) #[.int .i64 (D (at0 S j)).f, .slice (D (at0 S j)).a1 (D (at0 S j)).n1 (D (at0 S j)).c1, .slice (D (at0 S j)).a2 (D (at0 S j)).n2 (D (at0 S j)).c2, .int .i64 (wt j), lnk B S.length (j + 1)] 55
  ne : ∀ i j, i < j → j < S.length → B i ≠ B j
theorem Chn.keptN {W W' : World} {lo : Nat} {D : Nat → DV} {S : List Nat} {B : Nat → Nat} {wt : Nat → Int} (h : Chn W lo D S B wt) (hg : W.grownBy W' none) : Chn W' lo D S B wt :=
  ⟨h.from_, fun j hj => (h.box j hj).keptN hg, h.ne⟩
theorem Chn.kept {W W' : World} {lo g : Nat} {D : Nat → DV} {S : List Nat} {B : Nat → Nat} {wt : Nat → Int} (h : Chn W lo D S B wt) (hg : W.grownBy W' (some g)) (hne : g < lo) : Chn W' lo D S B wt :=
  ⟨h.from_, fun j hj => (h.box j hj).kept hg (by have := h.from_ j hj; intro e; have e := Option.some.inj e; omega), h.ne⟩
theorem Chn.nil (W : World) (lo : Nat) (D : Nat → DV) (B : Nat → Nat) (wt : Nat → Int) : Chn W lo D [] B wt :=
  ⟨fun j hj => absurd hj (Nat.not_lt_zero _), fun j hj => absurd hj (Nat.not_lt_zero _), fun i j _ hj => absurd hj (Nat.not_lt_zero _)⟩
/-- The next one takes the share that it stands for. -/
theorem Chn.set {W : World} {lo k : Nat} {D : Nat → DV} {S : List Nat} {B : Nat → Nat} {wt : Nat → Int} (h : Chn W lo D S B wt) (hk : k < S.length) (x : Int) : Chn (W.setCell ⟨B k, 3, none⟩ (.int .i64 x)) lo D S B (fun j => if j = k then x else wt j) := by
  refine ⟨h.from_, fun j hj => ?_, h.ne⟩
  by_cases e : j = k
  · subst e; simp only [if_true]; exact (h.box j hj).set 3 (.int .i64 x)
  · simp only [if_neg e]
    exact (h.box j hj).other (b' := B k) (i := 3) (v := .int .i64 x) (by
      rcases Nat.lt_or_gt_of_ne e with h' | h'
      · exact h.ne _ _ h' hk
      · exact (h.ne _ _ h' hj).symm)
theorem Chn.congr {W : World} {lo : Nat} {D : Nat → DV} {S : List Nat} {B : Nat → Nat} {wt wt' : Nat → Int} (h : Chn W lo D S B wt) (hw : ∀ j, j < S.length → wt j = wt' j) : Chn W lo D S B wt' :=
  ⟨h.from_, fun j hj => by rw [← hw j hj]; exact h.box j hj, h.ne⟩
/-- Where the next handing's address goes. -/
def endp (F : Nat) (B : Nat → Nat) : Nat → Addr
  | 0 => ⟨F, 0, none⟩
  | m + 1 => ⟨B m, 4, none⟩
def bput (B : Nat → Nat) (m x : Nat) : Nat → Nat := fun j => if j = m then x else B j
theorem lnk_put {B : Nat → Nat} {m x j : Nat} (h : j < m) : lnk (bput B m x) (m + 1) j = lnk B m j := by
  rw [lnk_yes h, lnk_yes (by omega), bput, if_neg (by omega)]
theorem lnk_put_last {B : Nat → Nat} {m x : Nat} : lnk (bput B m x) (m + 1) m = .pointer (some ⟨x, 0, none⟩) := by
  rw [lnk_yes (by omega), bput, if_pos rfl]
theorem set4 {a b c d e v : Value} : #[a, b, c, d, e].setIfInBounds 4 v = #[a, b, c, d, v] := rfl
/-- One more. -/
theorem Chn.push {W : World} {lo F k : Nat} {D : Nat → DV} {S : List Nat} {B : Nat → Nat} {wt : Nat → Int} (h : Chn W lo D S B wt) (hF : Blk W F #[lnk B S.length 0] 51) (hlo : F < lo) (hsz : lo ≤ W.heap.size) :
    Chn ((W.setCell (endp F B S.length) (.pointer (some ⟨W.heap.size, 0, none⟩))).alloc (.cells #[.int .i64 (D k).f, .slice (D k).a1 (D k).n1 (D k).c1, .slice (D k).a2 (D k).n2 (D k).c2, .int .i64 (wt S.length), .pointer none] 55)) lo D (S ++ [k]) (bput B S.length W.heap.size) wt ∧
    Blk ((W.setCell (endp F B S.length) (.pointer (some ⟨W.heap.size, 0, none⟩))).alloc (.cells #[.int .i64 (D k).f, .slice (D k).a1 (D k).n1 (D k).c1, .slice (D k).a2 (D k).n2 (D k).c2, .int .i64 (wt S.length), .pointer none] 55)) F #[lnk (bput B S.length W.heap.size) (S ++ [k]).length 0] 51 ∧
    W.grownBy ((W.setCell (endp F B S.length) (.pointer (some ⟨W.heap.size, 0, none⟩))).alloc (.cells #[.int .i64 (D k).f, .slice (D k).a1 (D k).n1 (D k).c1, .slice (D k).a2 (D k).n2 (D k).c2, .int .i64 (wt S.length), .pointer none] 55)) (some (endp F B S.length).block) := by
  have hl : (S ++ [k]).length = S.length + 1 := by simp
  obtain ⟨x, hx⟩ : ∃ x, x = W.heap.size := ⟨_, rfl⟩
  have hlt : ∀ j, j < S.length → B j < W.heap.size := fun j hj => (h.box j hj).lt
  have hFl := hF.lt
  have hsize : (W.setCell (endp F B S.length) (.pointer (some ⟨W.heap.size, 0, none⟩))).heap.size = W.heap.size := World.size_setCell _ _ _
  rw [hl]
  rw [← hx] at hsz hlt hFl hsize ⊢
  have hg1 : W.grownBy (W.setCell (endp F B S.length) (.pointer (some ⟨x, 0, none⟩))) (some (endp F B S.length).block) := by
    cases hm : S.length with
    | zero => exact Mem.grown_set W F 0 _
    | succ q => exact Mem.grown_set W (B q) 4 _
  generalize hW1 : W.setCell (endp F B S.length) (.pointer (some ⟨x, 0, none⟩)) = W1 at *
  have hg2 : ∀ o : Obj, W1.grownBy (W1.alloc o) none := fun o => Draw.grown_alloc _ _ _
  have hnew : ∀ (vs : Array Value) (T : TypeId), Blk (W1.alloc (.cells vs T)) x vs T := fun vs T => by have := Blk.new W1 vs T; rw [hsize] at this; exact this
  have hFn : Blk W1 F #[lnk (bput B S.length x) (S.length + 1) 0] 51 := by
    cases hm : S.length with
    | zero =>
      have e : W1 = W.setCell ⟨F, 0, none⟩ (.pointer (some ⟨x, 0, none⟩)) := by rw [← hW1, hm]; rfl
      have := hF.set 0 (.pointer (some ⟨x, 0, none⟩))
      rw [e, lnk_put_last]; exact this
    | succ q =>
      have h0 := h.from_ q (by omega)
      rw [lnk_put (by omega), ← hm]
      exact hF.kept hg1 (by rw [hm]; intro e; have e : F = B q := Option.some.inj e; omega)
  refine ⟨⟨fun j hj => ?_, fun j hj => ?_, fun i j hij hj => ?_⟩, hFn.keptN (hg2 _), gtr' hg1 (Draw.grown_some (hg2 _))⟩
  · rw [hl] at hj
    by_cases e : j = S.length
    · rw [bput, if_pos e]; omega
    · rw [bput, if_neg e]; exact h.from_ j (by omega)
  · rw [hl] at hj ⊢
    by_cases e : j = S.length
    · subst e
      rw [at0_last, lnk_no (by omega), bput, if_pos rfl]
      exact hnew _ _
    · have hj' : j < S.length := by omega
      rw [at0_app hj', bput, if_neg e]
      refine Blk.keptN ?_ (hg2 _)
      cases hm : S.length with
      | zero => omega
      | succ q =>
        rw [hm] at hj' hg1
        by_cases e2 : j = q
        · subst e2
          have e : W1 = W.setCell ⟨B j, 4, none⟩ (.pointer (some ⟨x, 0, none⟩)) := by rw [← hW1, hm]; rfl
          have hb := (h.box j (by omega)).set 4 (.pointer (some ⟨x, 0, none⟩))
          rw [e, show j + 1 = j + 1 from rfl]
          have hq : lnk (bput B (j + 1) x) (j + 1 + 1) (j + 1) = .pointer (some ⟨x, 0, none⟩) := lnk_put_last
          rw [hq]
          exact hb
        · have hb := (h.box j (by omega)).kept hg1 (by intro e; have e : B j = B q := Option.some.inj e; exact h.ne j q (by omega) (by omega) e)
          rw [hm] at hb
          have hq : lnk (bput B (q + 1) x) (q + 1 + 1) (j + 1) = lnk B (q + 1) (j + 1) := lnk_put (by omega)
          rw [hq]
          exact hb
  · rw [hl] at hj
    have hi' : i < S.length := by omega
    have := hlt i hi'
    by_cases e : j = S.length
    · rw [bput, if_neg (by omega), bput, if_pos e]; omega
    · rw [bput, if_neg (by omega), bput, if_neg e]; exact h.ne i j hij (by omega)
theorem own_dis (v : Value) : v.ownBlock = none ∨ v.ownBlock ≠ none := Classical.em _
theorem own_lo {w : World} {lo lo' k n : Nat} {T : TypeId} {v : Value} {xs : List Value} (h : w.ownsRow lo T k v n xs) (hl : lo' ≤ lo) : w.ownsRow lo' T k v n xs :=
  ⟨h.1, h.2.imp id fun ⟨g, cap, cur, a, b, c⟩ => ⟨g, cap, cur, a, by omega, c⟩⟩
theorem own_gr {w0 wr w1 : World} {lo k n : Nat} {T : TypeId} {v : Value} {xs : List Value} {o : Obj} (hg : w0.grownBy wr none) (ho : wr.ownsRow lo T k v n xs) (hlo : w0.heap.size ≤ lo) (h : (wr.alloc o).grownBy w1 v.ownBlock) : w0.grownBy w1 none := by
  cases hv : v.ownBlock with
  | none => rw [hv] at h; exact gtr (gtr hg (Draw.grown_alloc _ _ _)) h
  | some g => rw [hv] at h; exact grown_new (gtr hg (Draw.grown_alloc _ _ _)) (Nat.le_trans hlo (ho.lt g hv).1) h
end Con
end Go.Proofs.YtonhdkideianiaaGreatDoor
