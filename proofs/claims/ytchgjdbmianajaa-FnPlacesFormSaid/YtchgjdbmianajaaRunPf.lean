/-
  The walk of the law on places less one.
-/
import Derived.Test.YtchgjdbmianajaaDrawLine
import Derived.Test.YtchgjdbmianajaaMem
import Derived.Deep.RegionWith
import Derived.Deep.RegionHeld3
import Derived.Deep.AppendLies
import Derived.Deep.RegionLaw
import Derived.IntWalk
namespace Go.Proofs.Ytchgjdbmianajaa
namespace Run
open Go.RowKit Alg Mem Con
set_option linter.unusedVariables false

/-- The law of append at a step of a region that draws its order. -/
theorem step_append {P : Program} (w : World) {ops : Array Oper} {o : Oper} {a : Act} {K : Act → World → Prop} {Q : Exit → Act → World → Prop} {E : Prop} (hw : Region.wanted o (yielded ops a.tmps) = true) (s x : Operand) (t : TypeId)
    (ho : o.op = .call { callee := .builtin .append, args := #[s, x], argTypes := #[t, t] })
    (base : Nat) (e : TypeId) (i : TypeInfo) (z : Value) (size bytes : Nat) (ht : P.underlying t = some (.slice e)) (hi : P.info? e = some i) (hz : i.zero = some z)
    (hsize : i.size = size) (hby : i.bytes = bytes) (hzs : z.cells.size = size) (hsz : 0 < size)
    (v : Value) (n : Nat) (xs : List Value) (hs : a.eval s = v) (hown : w.ownsRow base e size v n xs)
    (ad : Addr) (m c : Nat) (news : List Value) (hx : a.eval x = .slice (some ad) m c) (hl : news.length = m * size) (hnews : ∀ j u, news[j]? = some u → w.cell? (ad.add j) = some u) (h1 : ∀ u ∈ news, u.oneCell' = true)
    (h63 : n + m ≤ maxLen) (hbytes : (n + m) * bytes ≤ 140737488355328) (hbase : base ≤ w.heap.size)
    (h : ∀ v' w', w'.ownsRow base e size v' (n + m) (xs ++ news) → w.grownBy w' v.ownBlock → (v' = .slice none 0 0 ↔ v = .slice none 0 0 ∧ m = 0) → K (a.put o.dst v') w') :
    if Region.wanted o (yielded ops a.tmps) = true then Oper.wp P o a w K Q else E := by
  rw [if_pos hw]
  exact wp_append_own w s x t ho base e i z size bytes ht hi hz hsize hby hzs hsz v n xs hs hown ad m c news hx hl hnews h1 h63 hbytes hbase h
/-- Which operation this is, by the slot that it writes. -/
theorem at_dst {P : Program} {ops : Array Oper} {o : Oper} {a : Act} {w : World} {K : Act → World → Prop} {Q : Exit → Act → World → Prop} {E : Prop} (d : Tmp) (h : o.dst = some d)
    (hg : if Region.wanted o (yielded ops a.tmps) = true then Oper.wp P o a w K Q else E) : if Region.wanted o (yielded ops a.tmps) = true then Oper.wp P o a w K Q else E := hg
theorem owns_empty2 (w : World) (o : Obj) (E : TypeId) (z : Nat → Int) : ((w.alloc o).alloc (.cells #[] E)).ownsRow w.heap.size E 1 (.slice (some ⟨w.heap.size + 1, 0, none⟩) 0 0) 0 (vals z 0) := by
  have h := ((row_empty (w.alloc o) E z).lower (lo' := w.heap.size) (by simp)).owns
  have e := World.size_alloc w o
  rw [e] at h
  exact h
/-- A row that is not nil, of whatever length. -/
theorem row_any {w1 : World} {lo : Nat} {E : TypeId} {v' : Value} {n : Nat} {xs : List Value} {z : Nat → Int} (h : w1.ownsRow lo E 1 v' n xs) (hv : v' ≠ .slice none 0 0) (hx : ∀ j, j < n → xs[j]? = some (.int .i64 (z j))) :
    ∃ b cap, v' = .slice (some ⟨b, 0, none⟩) n cap ∧ Row w1 lo E b n cap z := by
  rcases h.2 with ⟨h0, _⟩ | ⟨g, cap, cur, rfl, hlo, hg, hnc, hm, hcs, ht⟩
  · exact absurd h0 hv
  refine ⟨g, cap, rfl, hlo, ⟨fun i => cur[i]?.getD default, ⟨cur, hg, by omega, fun i hi => ?_⟩, fun j hj => ?_⟩, hnc, hm⟩
  · have : i < cur.size := by omega
    simp [this]
  · have h1 := hx j hj
    rw [← ht, List.getElem?_take, if_pos (by omega), Array.getElem?_toList] at h1
    simp [h1]
/-- Behind an append of m numbers to k. -/
def cat (z : Nat → Int) (k : Nat) (y : Nat → Int) : Nat → Int := fun j => if j < k then z j else y (j - k)
theorem cat_row {w1 : World} {lo : Nat} {E : TypeId} {v v' : Value} {k m : Nat} {z y : Nat → Int} (h : w1.ownsRow lo E 1 v' (k + m) (vals z k ++ vals y m)) (hv : v' = .slice none 0 0 ↔ v = .slice none 0 0 ∧ m = 0) (hn : v ≠ .slice none 0 0) :
    ∃ b cap, v' = .slice (some ⟨b, 0, none⟩) (k + m) cap ∧ Row w1 lo E b (k + m) cap (cat z k y) :=
  row_any h (fun e => hn (hv.1 e).1) fun j hj => by
    unfold cat
    by_cases e : j < k
    · rw [List.getElem?_append_left (by rw [vals_length]; exact e), vals_get z e, if_pos e]
    · rw [List.getElem?_append_right (by rw [vals_length]; omega), vals_length, vals_get y (by omega), if_neg e]
/-- Places less the k-th. -/
def wo (z : Nat → Int) (k j : Nat) : Int := if j < k then z j else z (j + 1)
theorem plok_apart {len : Nat} {z : Nat → Int} (h : plok len z = true) : ∀ i j, i < len → j < len → i ≠ j → z i ≠ z j := by
  have h2 := (plok_iff.1 h).2
  intro i j hi hj hij e
  rcases Nat.lt_or_gt_of_ne hij with h | h
  · exact hasz_no.1 (h2 j hj).2 i h e
  · exact hasz_no.1 (h2 i hi).2 j h e.symm
theorem plok_mk {n : Nat} {z : Nat → Int} (h5 : n ≤ 5) (hf : ∀ j, j < n → fok (z j) = true) (hd : ∀ i j, i < n → j < n → i ≠ j → z i ≠ z j) : plok n z = true :=
  plok_iff.2 ⟨h5, fun j hj => ⟨hf j hj, hasz_no.2 fun i hi => hd i j (by omega) hj (by omega)⟩⟩
theorem plok_wo {n k : Nat} {z : Nat → Int} (h : plok n z = true) (hk : k < n) : plok (n - 1) (wo z k) = true := by
  have h2 := (plok_iff.1 h).2
  have h5 := (plok_iff.1 h).1
  have ha := plok_apart h
  refine plok_mk (by omega) (fun j hj => ?_) (fun i j hi hj hij => ?_)
  · unfold wo; split
    · exact (h2 j (by omega)).1
    · exact (h2 (j + 1) (by omega)).1
  · unfold wo; split <;> split
    · exact ha i j (by omega) (by omega) hij
    · exact ha i (j + 1) (by omega) (by omega) (by omega)
    · exact ha (i + 1) j (by omega) (by omega) (by omega)
    · exact ha (i + 1) (j + 1) (by omega) (by omega) (by omega)
theorem plok_no {n k : Nat} {z : Nat → Int} (hk : k < n) (h : fok (z k) = false ∨ hasz z (z k) k = true) : plok n z = false := by
  unfold plok; rw [plz_no hk h, Bool.and_false]
theorem plok_twice (y : Nat → Int) (k : Nat) (n : Int) : plok (k + 2) (cat y k (fun _ => n)) = false :=
  plok_no (k := k + 1) (by omega) (.inr (hasz_iff.2 ⟨k, by omega, by unfold cat; rw [if_neg (by omega), if_neg (by omega)]⟩))
theorem plok_minus (y : Nat → Int) (k : Nat) : plok (k + 1) (cat y k (fun _ => -1)) = false :=
  plok_no (k := k) (by omega) (.inl (by unfold cat; rw [if_neg (by omega)]; rfl))
theorem wo_cat (z : Nat → Int) {n k : Nat} (hk : k < n) : ∀ j, j < k + (n - (k + 1)) → cat z k (fun i => z (k + 1 + i)) j = wo z k j := by
  intro j hj
  unfold cat wo
  split
  · rfl
  · show z (k + 1 + (j - k)) = z (j + 1)
    rw [show k + 1 + (j - k) = j + 1 from by omega]
theorem from_drew {w w' : World} {r : Option Nat} (h : w.drew.grownBy w' r) : w.grownBy w' r := ⟨h.os, h.tape, h.output, h.size, h.block⟩
theorem cat_row' {w1 : World} {lo : Nat} {E : TypeId} {b0 c0 : Nat} {v' : Value} {k m q : Nat} {z y : Nat → Int} (h : w1.ownsRow lo E 1 v' (k + m) (vals z k ++ vals y m)) (hv : v' = .slice none 0 0 ↔ Value.slice (some ⟨b0, 0, none⟩) k c0 = .slice none 0 0 ∧ m = 0) (hq : k + m = q) :
    ∃ b cap, v' = .slice (some ⟨b, 0, none⟩) q cap ∧ Row w1 lo E b q cap (cat z k y) := by
  subst hq; exact cat_row h hv (by intro e; cases e)
/-- A copy of k numbers, behind an append to an empty row. -/
theorem copy_row {w1 : World} {lo : Nat} {E : TypeId} {b0 : Nat} {v' : Value} {k : Nat} {z : Nat → Int} (h : w1.ownsRow lo E 1 v' (0 + k) (vals z 0 ++ vals z k)) (hv : v' = .slice none 0 0 ↔ Value.slice (some ⟨b0, 0, none⟩) 0 0 = .slice none 0 0 ∧ k = 0) :
    ∃ b cap, v' = .slice (some ⟨b, 0, none⟩) k cap ∧ Row w1 lo E b k cap z := by
  obtain ⟨b, c, e, hr⟩ := cat_row h hv (by intro e; cases e)
  rw [Nat.zero_add] at e hr
  exact ⟨b, c, e, hr.congr fun j _ => by unfold cat; rw [if_neg (by omega)]; rfl⟩

set_option maxRecDepth 100000 in
set_option maxHeartbeats 16000000 in
theorem FnPlacesForm (a : Option Addr) (len cap : Nat) (a1 : Option Addr) (len1 cap1 : Nat) (w : World) (hB : Draw.Bytes w w.heap.size a len) (hc : len ≤ cap) (hm : cap ≤ maxLen) (hc1 : len1 ≤ cap1) (hm1 : cap1 ≤ maxLen) :
    Calls Try.prog 4 #[.slice a len cap, .slice a1 len1 cap1] w (Yes w) := by
  by_cases hbig : 1048576 < len
  · have hbig' : (1048576 : Int) < (len : Int) := by omega
    clear hB
    go_enter Try.func4, Try.ntmps4
    go_wp2
    go_ret
    exact ⟨rfl, Below.refl _ _⟩
  have hbig' : ¬ (1048576 : Int) < (len : Int) := by omega
  by_cases hbih : 1048576 < len1
  · have hbih' : (1048576 : Int) < (len1 : Int) := by omega
    clear hB
    go_enter Try.func4, Try.ntmps4
    go_wp2
    go_ret
    exact ⟨rfl, Below.refl _ _⟩
  have hbih' : ¬ (1048576 : Int) < (len1 : Int) := by omega
  obtain ⟨i0, hi, hz0, hz1, hz2⟩ := info_parts info_int
  go_enter Try.func4, Try.ntmps4
  go_wp2_with fail
  refine (Draw.drawPlOk _ a len cap hB hc hm).mono ?_
  rintro e w1 ⟨b, n, c, z, rfl, l6, lc, lm, hA, hg⟩
  have lm' : c ≤ 9223372036854775807 := by unfold maxLen at lm; omega
  have HA := Lib.hid hA; have G1 := Lib.hid hg; clear hA hg hB
  cases hp : plok n z with
  | false =>
    go_wp2_with fail
    refine (iplok _ _ _ _ z HA.out (by omega) lc lm).mono ?_
    rintro e w' ⟨rfl, rfl⟩
    go_wp2_with fail
    refine (splok _ _ _ _ z HA.out (by omega)).mono ?_
    rintro e w2 ⟨rfl, hg⟩
    have G2 := Lib.hid hg; clear hg
    go_wp2_with fail
    refine (splok _ _ _ _ z (HA.out.kept G2.out) (by omega)).mono ?_
    rintro e w3 ⟨rfl, hg⟩
    have G3 := Lib.hid hg; clear hg
    go_wp2
    go_ret
    exact ⟨rfl, Draw.below_of (gtr G1.out (gtr G2.out G3.out))⟩
  | true =>
    have HP := Lib.hid hp
    go_wp2_with fail
    refine (iplok _ _ _ _ z HA.out (by omega) lc lm).mono ?_
    rintro e w' ⟨rfl, rfl⟩
    go_wp2_with fail
    refine (splok _ _ _ _ z HA.out (by omega)).mono ?_
    rintro e w2 ⟨rfl, hg⟩
    have G2 := Lib.hid hg; clear hg
    by_cases hn : n = 0
    · subst hn
      go_wp2_with fail
      refine (splok _ _ _ _ z (HA.out.kept G2.out) (by omega)).mono ?_
      rintro e w3 ⟨rfl, hg⟩
      have G3 := Lib.hid hg; clear hg
      go_wp2
      go_ret
      exact ⟨rfl, Draw.below_of (gtr G1.out (gtr G2.out G3.out))⟩
    have hn1 : 1 ≤ n := by omega
    have hn0 : ((n : Int) == 0) = false := by simp <;> omega
    have h5 := (plok_iff.1 HP.out).1
    obtain ⟨k, hk⟩ : ∃ k : Nat, (len1 : Int) % (n : Int) = (k : Int) := ⟨len1 % n, by omega⟩
    have hkn : k < n := by have := Int.emod_lt_of_pos (len1 : Int) (by omega : (0 : Int) < (n : Int)); omega
    have HA2 := Lib.hid (HA.out.kept G2.out)
    obtain ⟨b0, o0, hbo, hb0, hcs⟩ := HA2.out.ptr hn1
    cases hbo
    have HCS := Lib.hid hcs; clear hcs hn
    have hn00 : (0 : Int) < (n : Int) := by omega
    have s1 : IntKind.i64.wrap ((k : Int) + 1) = (k : Int) + 1 := IntWalk.i64_in _ (by omega)
    have s2 : 0 ≤ (k : Int) + 1 := by omega
    have s3 : ((k : Int) + 1).toNat = k + 1 := by omega
    have s4 : (k : Int) + 1 ≤ (n : Int) := by omega
    have s5 : (k : Int) ≤ (c : Int) := by omega
    obtain ⟨q, hq⟩ : ∃ q, k + (n - (k + 1)) = q := ⟨_, rfl⟩
    have hq1 : q + 1 ≤ n := by omega
    have hq2 : n ≤ q + 1 := by omega
    have HQ := Lib.hid hq; clear hq
    have hpw : plok q (wo z k) = true := by rw [show q = n - 1 from by omega]; exact plok_wo HP.out hkn
    have hpt : plok (q + 2) (cat (wo z k) q (fun _ => z k)) = false := plok_twice (wo z k) q (z k)
    have hpm : plok (q + 1) (cat (wo z k) q (fun _ => -1)) = false := plok_minus (wo z k) q
    have hcl2 : w2.cell? ⟨b, k, none⟩ = some (.int .i64 (z k)) := by have h := HCS.out k hkn; rw [Nat.zero_add] at h; exact h
    have s6 : (k : Int) ≤ (k : Int) + 1 := by omega
    by_cases hck : c = k + 1
    all_goals
      go_wp2_with fail
      go_region_law (first
        | (refine step_append _ (by rfl) (.tmp 43) (.tmp 46) 23 rfl w2.heap.size 3 i0 (.int .i64 0) 1 8 und_ints hi hz0 hz1 hz2 rfl (by decide) _ 0 (vals z 0) rfl (row_empty w2 3 z).owns.drew ⟨b, 0, none⟩ k _ (vals z k) rfl (by rw [vals_length, Nat.mul_one]) (cells_at fun j hj => (World.cell?_of_block (w := w2) (Below.heap_alloc w2 _ _ hb0)).trans (HCS.out j (by omega))) (one_cells _ _) (by unfold maxLen; omega) (by omega) (by show w2.heap.size ≤ (w2.alloc _).heap.size; simp) ?_; intro v' w3 hown' hgrow hnil; obtain ⟨b3, c3, rfl, hrow⟩ := copy_row hown' hnil; have H3 := Lib.hid hrow; have G3 := Lib.hid (grown_new (Draw.grown_alloc w2 (.cells #[] 3) none) (Nat.le_refl _) (from_drew hgrow)); have hs3 := G3.out.size; have HC3 := Lib.hid (fun (j : Nat) (hj : j < n) => (World.cell?_of_block (w := w2) (w' := w3) (a := ⟨b, 0 + j, none⟩) (G3.out.block b hb0 (by simp))).trans (HCS.out j hj)); clear hown' hgrow hrow hnil)
        | (refine step_append _ (by rfl) (.tmp 47) (.tmp 51) 23 rfl w2.heap.size 3 i0 (.int .i64 0) 1 8 und_ints hi hz0 hz1 hz2 rfl (by decide) _ k (vals z k) rfl H3.out.owns ⟨b, k + 1, none⟩ (n - (k + 1)) (c - (k + 1)) (vals (fun i => z (k + 1 + i)) (n - (k + 1))) rfl (by rw [vals_length, Nat.mul_one]) (cells_at fun j hj => by have h := HC3.out (k + 1 + j) (by omega); rw [Nat.zero_add] at h; exact h) (one_cells _ _) (by unfold maxLen; omega) (by omega) hs3 ?_; intro v' w4 hown' hgrow hnil; obtain ⟨b4, c4, rfl, hrow⟩ := cat_row' hown' hnil HQ.out; have H4 := Lib.hid (hrow.congr (fun j hj => wo_cat z hkn j (by have := HQ.out; omega))); have G4 := Lib.hid (grown_new G3.out H3.out.from_ hgrow); clear hown' hgrow hrow hnil)
        | (refine step_append _ (by rfl) (.tmp 47) (.tmp 51) 23 rfl w2.heap.size 3 i0 (.int .i64 0) 1 8 und_ints hi hz0 hz1 hz2 rfl (by decide) _ k (vals z k) rfl H3.out.owns ⟨b, 0, none⟩ (n - (k + 1)) _ (vals (fun i => z (k + 1 + i)) (n - (k + 1))) rfl (by rw [vals_length, Nat.mul_one]) (fun j u hu => absurd (List.getElem?_eq_some_iff.1 hu).1 (by rw [vals_length]; omega)) (one_cells _ _) (by unfold maxLen; omega) (by omega) hs3 ?_; intro v' w4 hown' hgrow hnil; obtain ⟨b4, c4, rfl, hrow⟩ := cat_row' hown' hnil HQ.out; have H4 := Lib.hid (hrow.congr (fun j hj => wo_cat z hkn j (by have := HQ.out; omega))); have G4 := Lib.hid (grown_new G3.out H3.out.from_ hgrow); clear hown' hgrow hrow hnil))
      have hle4 := H4.out.le
      have hmo4 := H4.out.most
      have hlt4 := H4.out.lt
      have hs4 := G4.out.size
      have hb4 : b < w4.heap.size := Nat.lt_of_lt_of_le hb0 hs4
      have hcl : w4.cell? ⟨b, k, none⟩ = some (.int .i64 (z k)) := (World.cell?_of_block (w := w2) (w' := w4) (a := ⟨b, k, none⟩) (G4.out.block b hb0 (by simp))).trans hcl2
      have HI4 := Lib.hid (show Ints w4.drew (some ⟨b4, 0, none⟩) q (wo z k) from H4.out.ints.keptB (fun _ _ => rfl) (Nat.le_refl _))
      go_wp2_with fail
      go_region_held3 (fun w' => w'.cell? ⟨b, k, none⟩ = some (.int .i64 (z k))) (first | assumption | exact hcl | exact hcl5 | exact hcl6 | exact hcl7 | exact hcl8 | exact (World.cell?_of_block (Below.heap_alloc _ _ _ (show b < _ from by (try simp); omega))).trans (by assumption)) (first
        | (refine at_dst 54 rfl ?_; go_simp; go_at_call 16; (with_reducible refine (iplok _ _ q c4 (wo z k) HI4.out (by omega) hle4 hmo4).mono ?_); rintro e w' ⟨rfl, rfl⟩; dsimp only)
        | (refine at_dst 58 rfl ?_; first
            | (refine step_append _ (by rfl) (.tmp 56) (.tmp 57) 23 rfl w4.heap.size 3 i0 (.int .i64 0) 1 8 und_ints hi hz0 hz1 hz2 rfl (by decide) _ 0 (vals (wo z k) 0) rfl (row_empty w4 3 (wo z k)).owns.drew ⟨b4, 0, none⟩ q c4 (vals (wo z k) q) rfl (by rw [vals_length, Nat.mul_one]) (cells_at fun j hj => by rw [Nat.zero_add]; exact (H4.out.alloc (.cells #[] 3)).cell hj) (one_cells _ _) (by unfold maxLen; omega) (by omega) (by show w4.heap.size ≤ (w4.alloc _).heap.size; simp) ?_; intro v' w5 hown' hgrow hnil; obtain ⟨b5, c5, rfl, hrow⟩ := copy_row hown' hnil; have H5 := Lib.hid hrow; have hge5 := hrow.from_; have hlt5 := hrow.lt; have G5 := Lib.hid (grown_new (gtr G4.out (Draw.grown_alloc w4 (.cells #[] 3) none)) hs4 (from_drew hgrow)); have H45 := Lib.hid ((H4.out.alloc (.cells #[] 3)).kept (from_drew hgrow) (by intro e; have e := Option.some.inj e; simp at e; omega)); have hcl5 : w5.cell? ⟨b, k, none⟩ = some (.int .i64 (z k)) := (World.cell?_of_block (w := w2) (w' := w5) (a := ⟨b, k, none⟩) (G5.out.block b hb0 (by simp))).trans hcl2; have hs5 := G5.out.size; clear hown' hgrow hrow hnil)
            | (refine step_append _ (by rfl) (.tmp 56) (.tmp 57) 23 rfl w4.heap.size 3 i0 (.int .i64 0) 1 8 und_ints hi hz0 hz1 hz2 rfl (by decide) _ 0 (vals (wo z k) 0) rfl ((row_empty w4 3 (wo z k)).alloc (.cells #[.int .i64 (z k), .int .i64 (z k)] 3)).owns.drew ⟨b4, 0, none⟩ q c4 (vals (wo z k) q) rfl (by rw [vals_length, Nat.mul_one]) (cells_at fun j hj => by rw [Nat.zero_add]; exact ((H4.out.alloc (.cells #[] 3)).alloc (.cells #[.int .i64 (z k), .int .i64 (z k)] 3)).cell hj) (one_cells _ _) (by unfold maxLen; omega) (by omega) (by show w4.heap.size ≤ ((w4.alloc _).alloc _).heap.size; simp <;> omega) ?_; intro v' w5 hown' hgrow hnil; obtain ⟨b5, c5, rfl, hrow⟩ := copy_row hown' hnil; have H5 := Lib.hid hrow; have hge5 := hrow.from_; have hlt5 := hrow.lt; have G5 := Lib.hid (grown_new (gtr G4.out (gtr (Draw.grown_alloc w4 (.cells #[] 3) none) (Draw.grown_alloc _ (.cells #[.int .i64 (z k), .int .i64 (z k)] 3) none))) hs4 (from_drew hgrow)); have H45 := Lib.hid (((H4.out.alloc (.cells #[] 3)).alloc (.cells #[.int .i64 (z k), .int .i64 (z k)] 3)).kept (from_drew hgrow) (by intro e; have e := Option.some.inj e; simp at e; omega)); have hcl5 : w5.cell? ⟨b, k, none⟩ = some (.int .i64 (z k)) := (World.cell?_of_block (w := w2) (w' := w5) (a := ⟨b, k, none⟩) (G5.out.block b hb0 (by simp))).trans hcl2; have HP5 := Lib.hid (show w5.heap[w4.heap.size + 1]? = some (.cells #[.int .i64 (z k), .int .i64 (z k)] 3 (0, 0)) from ((from_drew hgrow).block (w4.heap.size + 1) (by simp) (by intro e; have e := Option.some.inj e; simp at e)).trans (by have := heap_alloc_new (w4.alloc (.cells #[] 3)) (.cells #[.int .i64 (z k), .int .i64 (z k)] 3); simpa using this)); have hs5 := G5.out.size; clear hown' hgrow hrow hnil)
            | (refine step_append _ (by rfl) (.tmp 56) (.tmp 57) 23 rfl w4.heap.size 3 i0 (.int .i64 0) 1 8 und_ints hi hz0 hz1 hz2 rfl (by decide) _ 0 (vals (wo z k) 0) rfl (owns_empty2 w4 (.cells #[.int .i64 (z k), .int .i64 (z k)] 3) 3 (wo z k)).drew ⟨b4, 0, none⟩ q c4 (vals (wo z k) q) rfl (by rw [vals_length, Nat.mul_one]) (cells_at fun j hj => by rw [Nat.zero_add]; exact ((H4.out.alloc (.cells #[.int .i64 (z k), .int .i64 (z k)] 3)).alloc (.cells #[] 3)).cell hj) (one_cells _ _) (by unfold maxLen; omega) (by omega) (by show w4.heap.size ≤ ((w4.alloc _).alloc _).heap.size; simp <;> omega) ?_; intro v' w5 hown' hgrow hnil; obtain ⟨b5, c5, rfl, hrow⟩ := copy_row hown' hnil; have H5 := Lib.hid hrow; have hge5 := hrow.from_; have hlt5 := hrow.lt; have G5 := Lib.hid (grown_new (gtr G4.out (gtr (Draw.grown_alloc w4 (.cells #[.int .i64 (z k), .int .i64 (z k)] 3) none) (Draw.grown_alloc _ (.cells #[] 3) none))) (by simp <;> omega) (from_drew hgrow)); have H45 := Lib.hid (((H4.out.alloc (.cells #[.int .i64 (z k), .int .i64 (z k)] 3)).alloc (.cells #[] 3)).kept (from_drew hgrow) (by intro e; have e := Option.some.inj e; simp at e; omega)); have hcl5 : w5.cell? ⟨b, k, none⟩ = some (.int .i64 (z k)) := (World.cell?_of_block (w := w2) (w' := w5) (a := ⟨b, k, none⟩) (G5.out.block b hb0 (by simp))).trans hcl2; have HP5 := Lib.hid (show w5.heap[w4.heap.size]? = some (.cells #[.int .i64 (z k), .int .i64 (z k)] 3 (0, 0)) from ((from_drew hgrow).block w4.heap.size (by simp <;> omega) (by intro e; have e := Option.some.inj e; simp at e)).trans ((Below.heap_alloc _ _ _ (by simp)).trans (heap_alloc_new w4 (.cells #[.int .i64 (z k), .int .i64 (z k)] 3)))); have hs5 := G5.out.size; clear hown' hgrow hrow hnil))
        | (refine at_dst 68 rfl ?_; first
            | (refine step_append _ (by rfl) (.tmp 58) (.tmp 67) 23 rfl w4.heap.size 3 i0 (.int .i64 0) 1 8 und_ints hi hz0 hz1 hz2 rfl (by decide) _ q (vals (wo z k) q) rfl (H5.out.alloc (.cells #[.int .i64 (z k), .int .i64 (z k)] 3)).owns ⟨w5.heap.size, 0, none⟩ 2 2 (vals (fun _ => z k) 2) rfl (by rw [vals_length, Nat.mul_one]) (World.news_of_block (cs := #[.int .i64 (z k), .int .i64 (z k)]) (t := 3) (fr := (0, 0)) (heap_alloc_new w5 _)) (one_cells _ _) (by unfold maxLen; omega) (by omega) (by show w4.heap.size ≤ (w5.alloc _).heap.size; simp <;> omega) ?_; intro v' w6 hown' hgrow hnil; obtain ⟨b6, c6, rfl, hrow⟩ := cat_row hown' hnil (by intro e; cases e); have H6 := Lib.hid hrow; have hle6 := hrow.le; have hmo6 := hrow.most; have G6 := Lib.hid (grown_new (gtr G5.out (Draw.grown_alloc w5 (.cells #[.int .i64 (z k), .int .i64 (z k)] 3) none)) (show w2.heap.size ≤ b5 from by omega) hgrow); have H46 := Lib.hid ((H45.out.alloc (.cells #[.int .i64 (z k), .int .i64 (z k)] 3)).kept hgrow (by intro e; have e := Option.some.inj e; simp at e; omega)); have hcl6 : w6.cell? ⟨b, k, none⟩ = some (.int .i64 (z k)) := (World.cell?_of_block (w := w2) (w' := w6) (a := ⟨b, k, none⟩) (G6.out.block b hb0 (by simp))).trans hcl2; have hs6 := G6.out.size; clear hown' hgrow hrow hnil)
            | (refine step_append _ (by rfl) (.tmp 58) (.tmp 67) 23 rfl w4.heap.size 3 i0 (.int .i64 0) 1 8 und_ints hi hz0 hz1 hz2 rfl (by decide) _ q (vals (wo z k) q) rfl H5.out.owns ⟨w4.heap.size + 1, 0, none⟩ 2 2 (vals (fun _ => z k) 2) rfl (by rw [vals_length, Nat.mul_one]) (World.news_of_block (cs := #[.int .i64 (z k), .int .i64 (z k)]) (t := 3) (fr := (0, 0)) HP5.out) (one_cells _ _) (by unfold maxLen; omega) (by omega) (by omega) ?_; intro v' w6 hown' hgrow hnil; obtain ⟨b6, c6, rfl, hrow⟩ := cat_row hown' hnil (by intro e; cases e); have H6 := Lib.hid hrow; have hle6 := hrow.le; have hmo6 := hrow.most; have G6 := Lib.hid (grown_new G5.out (show w2.heap.size ≤ b5 from by omega) hgrow); have H46 := Lib.hid (H45.out.kept hgrow (by intro e; have e := Option.some.inj e; simp at e; omega)); have hcl6 : w6.cell? ⟨b, k, none⟩ = some (.int .i64 (z k)) := (World.cell?_of_block (w := w2) (w' := w6) (a := ⟨b, k, none⟩) (G6.out.block b hb0 (by simp))).trans hcl2; have hs6 := G6.out.size; clear hown' hgrow hrow hnil)
            | (refine step_append _ (by rfl) (.tmp 58) (.tmp 67) 23 rfl w4.heap.size 3 i0 (.int .i64 0) 1 8 und_ints hi hz0 hz1 hz2 rfl (by decide) _ q (vals (wo z k) q) rfl H5.out.owns ⟨w4.heap.size, 0, none⟩ 2 2 (vals (fun _ => z k) 2) rfl (by rw [vals_length, Nat.mul_one]) (World.news_of_block (cs := #[.int .i64 (z k), .int .i64 (z k)]) (t := 3) (fr := (0, 0)) HP5.out) (one_cells _ _) (by unfold maxLen; omega) (by omega) (by omega) ?_; intro v' w6 hown' hgrow hnil; obtain ⟨b6, c6, rfl, hrow⟩ := cat_row hown' hnil (by intro e; cases e); have H6 := Lib.hid hrow; have hle6 := hrow.le; have hmo6 := hrow.most; have G6 := Lib.hid (grown_new G5.out (show w2.heap.size ≤ b5 from by omega) hgrow); have H46 := Lib.hid (H45.out.kept hgrow (by intro e; have e := Option.some.inj e; simp at e; omega)); have hcl6 : w6.cell? ⟨b, k, none⟩ = some (.int .i64 (z k)) := (World.cell?_of_block (w := w2) (w' := w6) (a := ⟨b, k, none⟩) (G6.out.block b hb0 (by simp))).trans hcl2; have hs6 := G6.out.size; clear hown' hgrow hrow hnil))
        | (refine at_dst 69 rfl ?_; go_simp; go_at_call 16; (with_reducible refine (iplok _ _ (q + 2) c6 (cat (wo z k) q (fun _ => z k)) H6.out.ints (by omega) hle6 hmo6).mono ?_); rintro e w' ⟨rfl, rfl⟩; dsimp only)
        | (refine at_dst 75 rfl ?_; first
            | (refine step_append _ (by rfl) (.tmp 73) (.tmp 74) 23 rfl w6.heap.size 3 i0 (.int .i64 0) 1 8 und_ints hi hz0 hz1 hz2 rfl (by decide) _ 0 (vals (wo z k) 0) rfl (row_empty w6 3 (wo z k)).owns ⟨b4, 0, none⟩ q c4 (vals (wo z k) q) rfl (by rw [vals_length, Nat.mul_one]) (cells_at fun j hj => by rw [Nat.zero_add]; exact (H46.out.alloc (.cells #[] 3)).cell hj) (one_cells _ _) (by unfold maxLen; omega) (by omega) (by simp) ?_; intro v' w7 hown' hgrow hnil; obtain ⟨b7, c7, rfl, hrow⟩ := copy_row hown' hnil; have H7 := Lib.hid hrow; have hge7 := hrow.from_; have hlt7 := hrow.lt; have G7 := Lib.hid (grown_new (gtr G6.out (Draw.grown_alloc w6 (.cells #[] 3) none)) hs6 hgrow); have hcl7 : w7.cell? ⟨b, k, none⟩ = some (.int .i64 (z k)) := (World.cell?_of_block (w := w2) (w' := w7) (a := ⟨b, k, none⟩) (G7.out.block b hb0 (by simp))).trans hcl2; have hs7 := G7.out.size; clear hown' hgrow hrow hnil)
            | (refine step_append _ (by rfl) (.tmp 73) (.tmp 74) 23 rfl w6.heap.size 3 i0 (.int .i64 0) 1 8 und_ints hi hz0 hz1 hz2 rfl (by decide) _ 0 (vals (wo z k) 0) rfl ((row_empty w6 3 (wo z k)).alloc (.cells #[.int .i64 (-1)] 3)).owns ⟨b4, 0, none⟩ q c4 (vals (wo z k) q) rfl (by rw [vals_length, Nat.mul_one]) (cells_at fun j hj => by rw [Nat.zero_add]; exact ((H46.out.alloc (.cells #[] 3)).alloc (.cells #[.int .i64 (-1)] 3)).cell hj) (one_cells _ _) (by unfold maxLen; omega) (by omega) (by simp <;> omega) ?_; intro v' w7 hown' hgrow hnil; obtain ⟨b7, c7, rfl, hrow⟩ := copy_row hown' hnil; have H7 := Lib.hid hrow; have hge7 := hrow.from_; have hlt7 := hrow.lt; have G7 := Lib.hid (grown_new (gtr G6.out (gtr (Draw.grown_alloc w6 (.cells #[] 3) none) (Draw.grown_alloc _ (.cells #[.int .i64 (-1)] 3) none))) hs6 hgrow); have HM7 := Lib.hid (show w7.heap[w6.heap.size + 1]? = some (.cells #[.int .i64 (-1)] 3 (0, 0)) from (hgrow.block (w6.heap.size + 1) (by simp) (by intro e; have e := Option.some.inj e; simp at e)).trans (by have := heap_alloc_new (w6.alloc (.cells #[] 3)) (.cells #[.int .i64 (-1)] 3); simpa using this)); have hcl7 : w7.cell? ⟨b, k, none⟩ = some (.int .i64 (z k)) := (World.cell?_of_block (w := w2) (w' := w7) (a := ⟨b, k, none⟩) (G7.out.block b hb0 (by simp))).trans hcl2; have hs7 := G7.out.size; clear hown' hgrow hrow hnil)
            | (refine step_append _ (by rfl) (.tmp 73) (.tmp 74) 23 rfl w6.heap.size 3 i0 (.int .i64 0) 1 8 und_ints hi hz0 hz1 hz2 rfl (by decide) _ 0 (vals (wo z k) 0) rfl (owns_empty2 w6 (.cells #[.int .i64 (-1)] 3) 3 (wo z k)) ⟨b4, 0, none⟩ q c4 (vals (wo z k) q) rfl (by rw [vals_length, Nat.mul_one]) (cells_at fun j hj => by rw [Nat.zero_add]; exact ((H46.out.alloc (.cells #[.int .i64 (-1)] 3)).alloc (.cells #[] 3)).cell hj) (one_cells _ _) (by unfold maxLen; omega) (by omega) (by simp <;> omega) ?_; intro v' w7 hown' hgrow hnil; obtain ⟨b7, c7, rfl, hrow⟩ := copy_row hown' hnil; have H7 := Lib.hid hrow; have hge7 := hrow.from_; have hlt7 := hrow.lt; have G7 := Lib.hid (grown_new (gtr G6.out (gtr (Draw.grown_alloc w6 (.cells #[.int .i64 (-1)] 3) none) (Draw.grown_alloc _ (.cells #[] 3) none))) (by simp <;> omega) hgrow); have HM7 := Lib.hid (show w7.heap[w6.heap.size]? = some (.cells #[.int .i64 (-1)] 3 (0, 0)) from (hgrow.block w6.heap.size (by simp <;> omega) (by intro e; have e := Option.some.inj e; simp at e)).trans ((Below.heap_alloc _ _ _ (by simp)).trans (heap_alloc_new w6 (.cells #[.int .i64 (-1)] 3)))); have hcl7 : w7.cell? ⟨b, k, none⟩ = some (.int .i64 (z k)) := (World.cell?_of_block (w := w2) (w' := w7) (a := ⟨b, k, none⟩) (G7.out.block b hb0 (by simp))).trans hcl2; have hs7 := G7.out.size; clear hown' hgrow hrow hnil))
        | (refine at_dst 77 rfl ?_; first
            | (refine step_append _ (by rfl) (.tmp 75) (.tmp 76) 23 rfl w6.heap.size 3 i0 (.int .i64 0) 1 8 und_ints hi hz0 hz1 hz2 rfl (by decide) _ q (vals (wo z k) q) rfl (H7.out.alloc (.cells #[.int .i64 (-1)] 3)).owns ⟨w7.heap.size, 0, none⟩ 1 1 (vals (fun _ => -1) 1) rfl (by rw [vals_length, Nat.mul_one]) (World.news_of_block (cs := #[.int .i64 (-1)]) (t := 3) (fr := (0, 0)) (heap_alloc_new w7 _)) (one_cells _ _) (by unfold maxLen; omega) (by omega) (by show w6.heap.size ≤ (w7.alloc _).heap.size; simp <;> omega) ?_; intro v' w8 hown' hgrow hnil; obtain ⟨b8, c8, rfl, hrow⟩ := cat_row hown' hnil (by intro e; cases e); have H8 := Lib.hid hrow; have hle8 := hrow.le; have hmo8 := hrow.most; have G8 := Lib.hid (grown_new (gtr G7.out (Draw.grown_alloc w7 (.cells #[.int .i64 (-1)] 3) none)) (show w2.heap.size ≤ b7 from by omega) hgrow); have hcl8 : w8.cell? ⟨b, k, none⟩ = some (.int .i64 (z k)) := (World.cell?_of_block (w := w2) (w' := w8) (a := ⟨b, k, none⟩) (G8.out.block b hb0 (by simp))).trans hcl2; clear hown' hgrow hrow hnil)
            | (refine step_append _ (by rfl) (.tmp 75) (.tmp 76) 23 rfl w6.heap.size 3 i0 (.int .i64 0) 1 8 und_ints hi hz0 hz1 hz2 rfl (by decide) _ q (vals (wo z k) q) rfl H7.out.owns ⟨w6.heap.size + 1, 0, none⟩ 1 1 (vals (fun _ => -1) 1) rfl (by rw [vals_length, Nat.mul_one]) (World.news_of_block (cs := #[.int .i64 (-1)]) (t := 3) (fr := (0, 0)) HM7.out) (one_cells _ _) (by unfold maxLen; omega) (by omega) (by omega) ?_; intro v' w8 hown' hgrow hnil; obtain ⟨b8, c8, rfl, hrow⟩ := cat_row hown' hnil (by intro e; cases e); have H8 := Lib.hid hrow; have hle8 := hrow.le; have hmo8 := hrow.most; have G8 := Lib.hid (grown_new G7.out (show w2.heap.size ≤ b7 from by omega) hgrow); have hcl8 : w8.cell? ⟨b, k, none⟩ = some (.int .i64 (z k)) := (World.cell?_of_block (w := w2) (w' := w8) (a := ⟨b, k, none⟩) (G8.out.block b hb0 (by simp))).trans hcl2; clear hown' hgrow hrow hnil)
            | (refine step_append _ (by rfl) (.tmp 75) (.tmp 76) 23 rfl w6.heap.size 3 i0 (.int .i64 0) 1 8 und_ints hi hz0 hz1 hz2 rfl (by decide) _ q (vals (wo z k) q) rfl H7.out.owns ⟨w6.heap.size, 0, none⟩ 1 1 (vals (fun _ => -1) 1) rfl (by rw [vals_length, Nat.mul_one]) (World.news_of_block (cs := #[.int .i64 (-1)]) (t := 3) (fr := (0, 0)) HM7.out) (one_cells _ _) (by unfold maxLen; omega) (by omega) (by omega) ?_; intro v' w8 hown' hgrow hnil; obtain ⟨b8, c8, rfl, hrow⟩ := cat_row hown' hnil (by intro e; cases e); have H8 := Lib.hid hrow; have hle8 := hrow.le; have hmo8 := hrow.most; have G8 := Lib.hid (grown_new G7.out (show w2.heap.size ≤ b7 from by omega) hgrow); have hcl8 : w8.cell? ⟨b, k, none⟩ = some (.int .i64 (z k)) := (World.cell?_of_block (w := w2) (w' := w8) (a := ⟨b, k, none⟩) (G8.out.block b hb0 (by simp))).trans hcl2; clear hown' hgrow hrow hnil))
        | (refine at_dst 78 rfl ?_; go_simp; go_at_call 16; (with_reducible refine (iplok _ _ (q + 1) c8 (cat (wo z k) q (fun _ => -1)) H8.out.ints (by omega) hle8 hmo8).mono ?_); rintro e w' ⟨rfl, rfl⟩; dsimp only))
      all_goals
        go_wp2
        go_ret
        exact ⟨rfl, Draw.below_of (gtr G1.out (gtr G2.out G8.out))⟩
end Run
end Go.Proofs.Ytchgjdbmianajaa
