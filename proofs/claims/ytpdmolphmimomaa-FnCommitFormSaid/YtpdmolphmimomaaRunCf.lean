/-
  The walk of the law on the form of what is shown.
-/
import Derived.Test.YtpdmolphmimomaaCe
import Derived.Test.YtpdmolphmimomaaDrawCom
import Derived.Test.YtpdmolphmimomaaRunKit
namespace Go.Proofs.Ytpdmolphmimomaa
namespace Run
open Go.RowKit Alg Mem Con
set_option linter.unusedVariables false

/-- The law of append at an operation whose guard lets it. -/
theorem append_want {P : Program} (w : World) {ops : Array Oper} {rest : List Oper} {o : Oper} {a : Act} {Q : Exit → Act → World → Prop} (hw : Region.wanted o (yielded ops a.tmps) = true) (s x : Operand) (t : TypeId)
    (ho : o.op = .call { callee := .builtin .append, args := #[s, x], argTypes := #[t, t] })
    (base : Nat) (e : TypeId) (i : TypeInfo) (z : Value) (size bytes : Nat) (ht : P.underlying t = some (.slice e)) (hi : P.info? e = some i) (hz : i.zero = some z)
    (hsize : i.size = size) (hby : i.bytes = bytes) (hzs : z.cells.size = size) (hsz : 0 < size)
    (v : Value) (n : Nat) (xs : List Value) (hs : a.eval s = v) (hown : w.ownsRow base e size v n xs)
    (ad : Addr) (m c : Nat) (news : List Value) (hx : a.eval x = .slice (some ad) m c) (hl : news.length = m * size) (hnews : ∀ j u, news[j]? = some u → w.cell? (ad.add j) = some u) (h1 : ∀ u ∈ news, u.oneCell' = true)
    (h63 : n + m ≤ maxLen) (hbytes : (n + m) * bytes ≤ 140737488355328) (hbase : base ≤ w.heap.size)
    (h : ∀ v' w', w'.ownsRow base e size v' (n + m) (xs ++ news) → w.grownBy w' v.ownBlock → (v' = .slice none 0 0 ↔ v = .slice none 0 0 ∧ m = 0) → wpList P ops Q rest (a.put o.dst v') w') : wpList P ops Q (o :: rest) a w :=
  wpList_step fun K hK => by
    rw [if_pos hw]
    exact wp_append_own w s x t ho base e i z size bytes ht hi hz hsize hby hzs hsz v n xs hs hown ad m c news hx hl hnews h1 h63 hbytes hbase fun v' w' h2 h3 h4 => hK _ _ (h v' w' h2 h3 h4)
/-- A copy of k numbers, behind an append to nothing. -/
theorem copied_row {w1 : World} {lo : Nat} {E : TypeId} {v' : Value} {k : Nat} {z : Nat → Int} (h : w1.ownsRow lo E 1 v' (0 + k) (vals z 0 ++ vals z k)) (hk : 1 ≤ k) :
    ∃ b cap, v' = .slice (some ⟨b, 0, none⟩) (0 + k) cap ∧ Row w1 lo E b k cap z := by
  obtain ⟨b, c, hv, hr⟩ := row_of_owns (z := z) h (by omega) (fun j hj => by rw [show vals z 0 = [] from rfl, List.nil_append]; exact vals_get z (by omega))
  rw [Nat.zero_add] at hr
  exact ⟨b, c, hv, hr⟩
/-- One number more, whatever it is. -/
def put (z : Nat → Int) (k : Nat) (n : Int) : Nat → Int := fun j => if j = k then n else z j
theorem put_at (z : Nat → Int) (k : Nat) (n : Int) : put z k n k = n := if_pos rfl
theorem put_low (z : Nat → Int) {k j : Nat} (n : Int) (h : j < k) : put z k n j = z j := if_neg (by omega)
theorem put_row {w1 : World} {lo : Nat} {E : TypeId} {v' : Value} {k : Nat} {z : Nat → Int} {n : Int} (h : w1.ownsRow lo E 1 v' (k + 1) (vals z k ++ [.int .i64 n])) :
    ∃ b cap, v' = .slice (some ⟨b, 0, none⟩) (k + 1) cap ∧ Row w1 lo E b (k + 1) cap (put z k n) :=
  row_of_owns h (by omega) fun j hj => by
    by_cases e : j < k
    · rw [List.getElem?_append_left (by rw [vals_length]; exact e), vals_get z e, put_low z n e]
    · obtain rfl : j = k := by omega
      rw [List.getElem?_append_right (by rw [vals_length]; exact Nat.le_refl _), vals_length, Nat.sub_self, put_at]; rfl
theorem cokz_less {n k : Nat} {z : Nat → Int} (h : cokz n z = true) (h1 : 1 ≤ k) (hk : k ≤ n) : cokz k z = true := by
  obtain ⟨p1, p5, pz⟩ := cokz_iff.1 h
  exact cokz_iff.2 ⟨h1, by omega, fun j hj => pz j (by omega)⟩
theorem cokz_bad {n k : Nat} {z : Nat → Int} (hk : k < n) (h : gok (z k) = false) : cokz n z = false := by
  unfold cokz; rw [gkz_no hk h, Bool.and_false]
/-- A copy of k numbers, of none too. -/
theorem copied_any {w1 : World} {lo : Nat} {E : TypeId} {v' : Value} {k : Nat} {z : Nat → Int} (h : w1.ownsRow lo E 1 v' (0 + k) (vals z 0 ++ vals z k)) (hne : ¬ v' = .slice none 0 0) :
    ∃ b cap, v' = .slice (some ⟨b, 0, none⟩) (0 + k) cap ∧ Row w1 lo E b k cap z := by
  rcases h.2 with ⟨h0, _⟩ | ⟨g, cap, cur, hv, hlo, hg, hnc, hm, hcs, ht⟩
  · exact (hne h0).elim
  · refine ⟨g, cap, hv, hlo, ⟨fun i => cur[i]?.getD default, ⟨cur, hg, by omega, fun i hi => ?_⟩, fun j hj => ?_⟩, by omega, hm⟩
    · have : i < cur.size := by omega
      simp [this]
    · have h1 : (vals z 0 ++ vals z k)[j]? = some (.int .i64 (z j)) := by rw [show vals z 0 = [] from rfl, List.nil_append]; exact vals_get z hj
      rw [← ht, List.getElem?_take, if_pos (by omega), Array.getElem?_toList] at h1
      simp [h1]

set_option maxRecDepth 100000 in
set_option maxHeartbeats 2000000 in
theorem FnCommitForm (a : Option Addr) (len cap : Nat) (a1 : Option Addr) (len1 cap1 : Nat) (w : World) (hB : Draw.Bytes w w.heap.size a len) (hc : len ≤ cap) (hm : cap ≤ maxLen) (hc1 : len1 ≤ cap1) (hm1 : cap1 ≤ maxLen) :
    Calls Try.prog 9 #[.slice a len cap, .slice a1 len1 cap1] w (Yes w) := by
  by_cases hbig : 1048576 < len
  · have hbig' : (1048576 : Int) < (len : Int) := by omega
    clear hB
    go_enter Try.func9, Try.ntmps9
    go_wp2
    go_ret
    exact ⟨rfl, Below.refl _ _⟩
  have hbig' : ¬ (1048576 : Int) < (len : Int) := by omega
  by_cases hbih : 1048576 < len1
  · have hbih' : (1048576 : Int) < (len1 : Int) := by omega
    clear hB
    go_enter Try.func9, Try.ntmps9
    go_wp2
    go_ret
    exact ⟨rfl, Below.refl _ _⟩
  have hbih' : ¬ (1048576 : Int) < (len1 : Int) := by omega
  obtain ⟨i0, hi, hz0, hz1, hz2⟩ := info_parts info_int
  go_enter Try.func9, Try.ntmps9
  go_wp2_with fail
  refine (Draw.drawCOk _ a len cap hB hc hm).mono ?_
  rintro e w1 ⟨b, n, c, z, rfl, l6, lc, lm, hA, hg⟩
  have lm' : c ≤ 9223372036854775807 := by unfold maxLen at lm; omega
  have HA := Lib.hid hA; have G1 := Lib.hid hg; clear hA hg hB
  cases hp : cokz n z with
  | false =>
    go_wp2_with fail
    refine (icok _ _ _ _ z HA.out (by omega)).mono ?_
    rintro e w2 ⟨rfl, hg⟩
    have HA2 := Lib.hid (HA.out.kept hg); have G2 := Lib.hid (gtr G1.out hg); clear hg
    go_wp2_with fail
    refine (scok _ _ _ _ z HA2.out (by omega)).mono ?_
    rintro e w' ⟨rfl, rfl⟩
    go_wp2_with fail
    refine (scok _ _ _ _ z HA2.out (by omega)).mono ?_
    rintro e w' ⟨rfl, rfl⟩
    go_wp2
    go_ret
    exact ⟨rfl, Draw.below_of G2.out⟩
  | true =>
    have HP := Lib.hid hp
    obtain ⟨p1, p5, pz⟩ := cokz_iff.1 HP.out
    clear pz
    obtain ⟨k, hk⟩ : ∃ k : Nat, 1 + (len1 : Int) % (n : Int) = (k : Int) := ⟨1 + len1 % n, by omega⟩
    have hn0 : (0 : Int) < (n : Int) := by omega
    have hr0 : 0 ≤ (len1 : Int) % (n : Int) := Int.emod_nonneg _ (by omega)
    have hr1 : (len1 : Int) % (n : Int) < (n : Int) := Int.emod_lt_of_pos _ hn0
    have hk1 : 1 ≤ k := by omega
    have hkn : k ≤ n := by omega
    have hn5 : (n : Int) ≤ 5 := by omega
    have HPK := Lib.hid (cokz_less HP.out hk1 hkn)
    go_wp2_with fail
    refine (icok _ _ _ _ z HA.out (by omega)).mono ?_
    rintro e w2 ⟨rfl, hg⟩
    have HA2 := Lib.hid (HA.out.kept hg); have G2 := Lib.hid (gtr G1.out hg); clear hg
    go_wp2_with fail
    refine (scok _ _ _ _ z HA2.out (by omega)).mono ?_
    rintro e w' ⟨rfl, rfl⟩
    have hpk := HPK.out
    have hkc : k ≤ c := by omega
    obtain ⟨m, rfl⟩ : ∃ m, k = m + 1 := ⟨k - 1, by omega⟩
    have hkm : ((m + 1 : Nat) : Int) - 1 = (m : Int) := by omega
    have hmc : m ≤ c := by omega
    go_wp2_with fail
    refine (icok _ _ _ _ z (HA2.out.less hkn) (by omega)).mono ?_
    rintro e w3 ⟨rfl, hg⟩
    have HA3 := Lib.hid (HA2.out.kept hg); have G3 := Lib.hid (gtr G2.out hg); clear hg
    rw [hpk]
    obtain ⟨b0, o0, hbo, hb1, hcs⟩ := HA3.out.ptr p1
    cases hbo
    have HCS := Lib.hid hcs; clear hcs
    go_wp2_with (first
      | (at_builtin; refine append_want _ (by rfl) (.tmp 43) (.tmp 47) 23 rfl w3.heap.size 3 i0 (.int .i64 0) 1 8 und_ints hi hz0 hz1 hz2 rfl (by decide) _ 0 (vals z 0) rfl (row_empty w3 3 z).owns ⟨b, 0, none⟩ m c (vals z m) rfl (by rw [vals_length, Nat.mul_one]) (cells_at fun j hj => by rw [World.cell?_of_block (w := w3) (Below.heap_alloc _ _ _ hb1)]; exact HCS.out j (by omega)) (one_cells _ _) (by unfold maxLen; omega) (by omega) (by simp) ?_; intro v' w4 hown' hgrow hiff; obtain ⟨b2, c2, rfl, hrow⟩ := copied_any hown' (fun e => by have := (hiff.1 e).1; cases this); have H2 := Lib.hid hrow; have G4 := Lib.hid (grown_new (Draw.grown_alloc w3 (.cells #[] 3) none) (Nat.le_refl _) hgrow); have hsz2 := G4.out.size; rw [Nat.zero_add]; clear hown' hgrow hrow hiff)
      | (at_builtin; refine append_want _ (by rfl) (.tmp 48) (.tmp 49) 23 rfl w3.heap.size 3 i0 (.int .i64 0) 1 8 und_ints hi hz0 hz1 hz2 rfl (by decide) _ m (vals z m) rfl (H2.out.alloc _).owns ⟨w4.heap.size, 0, none⟩ 1 1 [.int .i64 0] rfl rfl (cell_one_new _ _ _) (by simp [Value.oneCell']) (by unfold maxLen; omega) (by omega) (by simp; omega) ?_; intro v' w5 hown' hgrow _; obtain ⟨b3, c3, rfl, hrow⟩ := put_row hown'; have H3 := Lib.hid hrow; have G5 := Lib.hid (app_grown G4.out H2.out.from_ hgrow); clear hown' hgrow hrow))
    have hbad : cokz (m + 1) (put z m 0) = false := cokz_bad (Nat.lt_succ_self m) (by rw [put_at]; decide +kernel)
    go_wp2_with fail
    refine (icok _ _ _ _ (put z m 0) H3.out.ints (by omega)).mono ?_
    rintro e w6 ⟨rfl, hg⟩
    have G6 := Lib.hid (gtr (gtr G3.out G5.out) hg); clear hg
    rw [hbad]
    have hnil : cokz 0 z = false := cokz_out (.inl (by omega))
    go_wp2_with fail
    refine (icok _ _ _ _ z (.inl rfl) (by omega)).mono ?_
    rintro e w7 ⟨rfl, hg⟩
    have G7 := Lib.hid (gtr G6.out hg); clear hg
    rw [hnil]
    go_wp2
    go_ret
    exact ⟨rfl, Draw.below_of G7.out⟩
end Run
end Go.Proofs.Ytpdmolphmimomaa
