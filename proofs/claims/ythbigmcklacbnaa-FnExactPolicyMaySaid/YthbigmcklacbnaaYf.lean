/-
  Policies: how the model draws roles, rules, and some people.
-/
import Derived.Test.YthbigmcklacbnaaYe
import Derived.Test.YthbigmcklacbnaaDo
import Derived.Test.YthbigmcklacbnaaGy
namespace Go.Proofs.Ythbigmcklacbnaa
namespace Po
open Go.RowKit Alg Mem Con Draw
set_option linter.unusedVariables false

theorem info_strg : (Try.prog.info? 9).map (fun i => (i.zero, i.size, i.bytes)) = some (some (.string ⟨#[]⟩), 1, 16) := by kernel_rfl
theorem und_strs : Try.prog.underlying 23 = some (.slice 9) := by kernel_rfl
theorem info_rule : (Try.prog.info? 39).map (fun i => (i.zero, i.size, i.bytes)) = some (some (.agg #[.string ⟨#[]⟩, .int .i64 0, .int .i64 0]), 3, 32) := by kernel_rfl
theorem und_rules : Try.prog.underlying 34 = some (.slice 39) := by kernel_rfl
theorem info_intP : (Try.prog.info? 3).map (fun i => (i.zero, i.size, i.bytes)) = some (some (.int .i64 0), 1, 8) := by kernel_rfl
theorem und_intsP : Try.prog.underlying 29 = some (.slice 3) := by kernel_rfl
/-- Two of the call's own, of different kinds, lie in different blocks. -/
theorem own_neP {W : World} {lo lo' k k' n n' b b' c c' : Nat} {T V : TypeId} {xs ys : List Value} (h : W.ownsRow lo T k (.slice (some ⟨b, 0, none⟩) n c) n xs) (h' : W.ownsRow lo' V k' (.slice (some ⟨b', 0, none⟩) n' c') n' ys) (hne : T ≠ V) : some b ≠ some b' := by
  rcases h.2 with ⟨hv, _⟩ | ⟨g, _, cur, hv, _, hb, _⟩
  · cases hv
  rcases h'.2 with ⟨hv', _⟩ | ⟨g', _, cur', hv', _, hb', _⟩
  · cases hv'
  injection hv with e _ _; injection e with e; injection e with e _
  injection hv' with e' _ _; injection e' with e'; injection e' with e' _
  subst e; subst e'
  intro hbb
  have hbb := Option.some.inj hbb
  subst hbb
  rw [hb] at hb'
  injection hb' with hb'
  injection hb' with _ k2 _
  exact hne k2
def catR (R : Nat → ByteArray) (n : Nat) (Q : Nat → ByteArray) (j : Nat) : ByteArray := if j < n then R j else Q (j - n)
def catU (U : Nat → RV) (n : Nat) (Q : Nat → RV) (j : Nat) : RV := if j < n then U j else Q (j - n)
def catZ (z : Nat → Int) (n : Nat) (y : Nat → Int) (j : Nat) : Int := if j < n then z j else y (j - n)
section
variable {ops : Array Oper} {rest : List Oper} {o : Oper} {act : Act} {w : World} {Q : Exit → Act → World → Prop}
/-- Numbers appended to numbers of the call's own. -/
theorem app_Z (hgd : o.guard = none) (s x : Operand) (ho : o.op = .call { callee := .builtin .append, args := #[s, x], argTypes := #[29, 29] })
    (base : Nat) (z y : Nat → Int) (g n c : Nat) (hs : act.eval s = .slice (some ⟨g, 0, none⟩) n c) (hown : OZ w base g n c z)
    (b off m c2 : Nat) (hx : act.eval x = .slice (some ⟨b, off, none⟩) m c2) (hc : ∀ j, j < m → w.cell? ⟨b, off + j, none⟩ = some (.int .i64 (y j))) (hn : n + m ≤ 2000000) (hbase : base ≤ w.heap.size)
    (h : ∀ b' c' w', OZ w' base b' (n + m) c' (catZ z n y) → w.grownBy w' (some g) → wpList Try.prog ops Q rest (act.put o.dst (.slice (some ⟨b', 0, none⟩) (n + m) c')) w') : wpList Try.prog ops Q (o :: rest) act w :=
  wpList_plain hgd fun _ hK => app_G s x 29 3 (.int .i64 0) 1 8 und_intsP info_intP rfl (by decide) (by decide) ho base (zC z) (zC y) (zC (catZ z n y)) (fun _ => rfl) (fun j u hu => by simp [zC] at hu; subst hu; rfl)
    g n c hs hown b off m c2 hx (fun j i u hj hu => by
      obtain rfl : i = 0 := by have := (List.getElem?_eq_some_iff.1 hu).1; simpa [zC] using this
      simp [zC] at hu; subst hu; rw [Nat.mul_one, Nat.add_zero]; exact hc j hj)
    (fun j hj => by unfold zC catZ; rw [if_pos hj]) (fun j hj => by unfold zC catZ; rw [if_neg (by omega), show n + j - n = j by omega]) hn hbase fun b' c' w' h1 h2 => hK _ _ (h b' c' w' h1 h2)
/-- Texts appended to texts of the call's own. -/
theorem app_S (hgd : o.guard = none) (s x : Operand) (ho : o.op = .call { callee := .builtin .append, args := #[s, x], argTypes := #[23, 23] })
    (base : Nat) (z y : Nat → ByteArray) (g n c : Nat) (hs : act.eval s = .slice (some ⟨g, 0, none⟩) n c) (hown : OS w base g n c z)
    (b off m c2 : Nat) (hx : act.eval x = .slice (some ⟨b, off, none⟩) m c2) (hc : ∀ j, j < m → w.cell? ⟨b, off + j, none⟩ = some (.string (y j))) (hn : n + m ≤ 2000000) (hbase : base ≤ w.heap.size)
    (h : ∀ b' c' w', OS w' base b' (n + m) c' (catR z n y) → w.grownBy w' (some g) → wpList Try.prog ops Q rest (act.put o.dst (.slice (some ⟨b', 0, none⟩) (n + m) c')) w') : wpList Try.prog ops Q (o :: rest) act w :=
  wpList_plain hgd fun _ hK => app_G s x 23 9 (.string ⟨#[]⟩) 1 16 und_strs info_strg rfl (by decide) (by decide) ho base (sC z) (sC y) (sC (catR z n y)) (fun _ => rfl) (fun j u hu => by simp [sC] at hu; subst hu; rfl)
    g n c hs hown b off m c2 hx (fun j i u hj hu => by
      obtain rfl : i = 0 := by have := (List.getElem?_eq_some_iff.1 hu).1; simpa [sC] using this
      simp [sC] at hu; subst hu; rw [Nat.mul_one, Nat.add_zero]; exact hc j hj)
    (fun j hj => by unfold sC catR; rw [if_pos hj]) (fun j hj => by unfold sC catR; rw [if_neg (by omega), show n + j - n = j by omega]) hn hbase fun b' c' w' h1 h2 => hK _ _ (h b' c' w' h1 h2)
/-- Rules appended to rules of the call's own. -/
theorem app_U (hgd : o.guard = none) (s x : Operand) (ho : o.op = .call { callee := .builtin .append, args := #[s, x], argTypes := #[34, 34] })
    (base : Nat) (z y : Nat → RV) (g n c : Nat) (hs : act.eval s = .slice (some ⟨g, 0, none⟩) n c) (hown : OU w base g n c z)
    (b off m c2 : Nat) (hx : act.eval x = .slice (some ⟨b, off, none⟩) m c2)
    (hc : ∀ j, j < m → w.cell? ⟨b, off + j * 3, none⟩ = some (.string (y j).r) ∧ w.cell? ⟨b, off + j * 3 + 1, none⟩ = some (.int .i64 (y j).many) ∧ w.cell? ⟨b, off + j * 3 + 2, none⟩ = some (.int .i64 (y j).most)) (hn : n + m ≤ 2000000) (hbase : base ≤ w.heap.size)
    (h : ∀ b' c' w', OU w' base b' (n + m) c' (catU z n y) → w.grownBy w' (some g) → wpList Try.prog ops Q rest (act.put o.dst (.slice (some ⟨b', 0, none⟩) (n + m) c')) w') : wpList Try.prog ops Q (o :: rest) act w :=
  wpList_plain hgd fun _ hK => app_G s x 34 39 (.agg #[.string ⟨#[]⟩, .int .i64 0, .int .i64 0]) 3 32 und_rules info_rule rfl (by decide) (by decide) ho base (uC z) (uC y) (uC (catU z n y)) (fun _ => rfl) (fun j u hu => by simp [uC] at hu; rcases hu with rfl | rfl | rfl <;> rfl)
    g n c hs hown b off m c2 hx (fun j i u hj hu => by
      have hi : i < 3 := by have := (List.getElem?_eq_some_iff.1 hu).1; simpa [uC] using this
      obtain ⟨h0, h1, h2⟩ := hc j hj
      rcases (by omega : i = 0 ∨ i = 1 ∨ i = 2) with rfl | rfl | rfl <;> (simp [uC] at hu; subst hu; rw [← Nat.add_assoc]; assumption))
    (fun j hj => by unfold uC catU; rw [if_pos hj]) (fun j hj => by unfold uC catU; rw [if_neg (by omega), show n + j - n = j by omega]) hn hbase fun b' c' w' h1 h2 => hK _ _ (h b' c' w' h1 h2)
end
theorem one_Z {w : World} {b : Nat} {y : Int} {T : TypeId} (h : Blk w b #[.int .i64 y] T) : ∀ j, j < 1 → w.cell? ⟨b, 0 + j, none⟩ = some (.int .i64 ((fun _ => y) j)) := fun j hj => by
  obtain rfl : j = 0 := by omega
  exact h.cell 0
theorem one_S {w : World} {b : Nat} {y : ByteArray} {T : TypeId} (h : Blk w b #[.string y] T) : ∀ j, j < 1 → w.cell? ⟨b, 0 + j, none⟩ = some (.string ((fun _ => y) j)) := fun j hj => by
  obtain rfl : j = 0 := by omega
  exact h.cell 0
theorem one_U {w : World} {b : Nat} {y : ByteArray} {m n : Int} {T : TypeId} (h : Blk w b #[.string y, .int .i64 m, .int .i64 n] T) :
    ∀ j, j < 1 → w.cell? ⟨b, 0 + j * 3, none⟩ = some (.string ((fun _ => (⟨y, m, n⟩ : RV)) j).r) ∧ w.cell? ⟨b, 0 + j * 3 + 1, none⟩ = some (.int .i64 ((fun _ => (⟨y, m, n⟩ : RV)) j).many) ∧ w.cell? ⟨b, 0 + j * 3 + 2, none⟩ = some (.int .i64 ((fun _ => (⟨y, m, n⟩ : RV)) j).most) := fun j hj => by
  obtain rfl : j = 0 := by omega
  exact ⟨h.cell 0, h.cell 1, h.cell 2⟩
theorem rdN {w w' : World} {base B : Nat} {a : Option Addr} {len cap p : Nat} (h : Rd w base B a len cap p) (hg : w.grownBy w' none) : Rd w' base B a len cap p :=
  h.kept (fun k hk => hg.block k (by have := h.lt; have := h.from_; omega) (by simp)) (hg.block B h.lt (by simp))
theorem chB {w W W' : World} {B : Nat} (h : w.grownBy W (some B)) (k : W.grownBy W' none) : w.grownBy W' (some B) := Draw.grown_trans h (Draw.grown_some k)
/-- What drawing some people leaves. -/
def GotWh (w : World) (base B : Nat) (a : Option Addr) (len cap p : Nat) (e : Ending) (w' : World) : Prop :=
  ∃ (b q c p' : Nat) (z : Nat → Int), e = .returned (.slice (some ⟨b, 0, none⟩) q c) ∧ q ≤ 5 ∧ OZ w' w.heap.size b q c z ∧ w.grownBy w' (some B) ∧ Rd w' base B a len cap p' ∧ p' ≤ p + 6
set_option maxHeartbeats 4000000 in
theorem who_any (w : World) (base B : Nat) (a : Option Addr) (len cap p : Nat) (h : Rd w base B a len cap p) (hp : p ≤ 100000000) :
    Calls Try.prog 65 #[.pointer (some ⟨B, 0, none⟩)] w (GotWh w base B a len cap p) := by
  have hBw := h.lt
  have hbase := h.from_
  have hO := own_nil (s := 1) (cs := zC (fun _ => 0)) (Blk.new w #[] 3) (Nat.le_refl _)
  have H0 := Lib.hid (h.alloc (.cells #[] 3)); have O0 := Lib.hid hO
  have G0 := Lib.hid (Draw.grown_alloc w (.cells #[] 3) (some B))
  clear h hO
  go_enter Try.func65, Try.ntmps65
  go_wp2_with fail
  refine (pick_any _ base B a len cap _ 6 H0.out (by omega) (by omega)).mono ?_
  rintro e w1 ⟨x, x0, x1, rfl, hr, hg, hs⟩
  obtain ⟨n, rfl⟩ := Int.eq_ofNat_of_zero_le x0
  have hsz : w.heap.size + 1 ≤ (w.alloc (.cells #[] 3)).heap.size := by rw [World.size_alloc]; exact Nat.le_refl _
  have H := Lib.hid hr; have G := Lib.hid (gtr' G0.out hg); have O := Lib.hid (World.ownsRow.kept O0.out hg (.inr (show some w.heap.size ≠ some B by intro e; have := Option.some.inj e; omega)))
  clear hr hg hs H0 O0 G0 hsz
  go_wp2
  go_loopw [3, 4] (fun u i wr => ∃ (k q b c p' : Nat) (z : Nat → Int), i = .int .i64 k ∧ k + q ≤ 5 ∧ u = .slice (some ⟨b, 0, none⟩) q c ∧ OZ wr w.heap.size b q c z ∧ w.grownBy wr (some B) ∧ Rd wr base B a len cap p' ∧ p' + k ≤ p + 6) (fun _ i _ => (intOf i).toNat)
  case atStart => exact ⟨n, 0, _, _, _, _, rfl, by omega, rfl, O.out, G.out, H.out, by omega⟩
  case round =>
    clear H G O
    obtain ⟨k, q, b, c, p1, z, rfl, hk, rfl, ho, hg, hr⟩ := hrel
    obtain ⟨hr, hp1⟩ := hr
    have O := Lib.hid ho; have G := Lib.hid hg; have H := Lib.hid hr
    have hw1 := hg.size
    have hbo := ho.lt
    clear ho hg hr
    by_cases h0 : k = 0
    · subst h0
      go_wp2
      go_ret
      exact ⟨b, q, c, p1, z, rfl, by omega, O.out, G.out, H.out, by omega⟩
    · have hk0 : (0 : Int) < (k : Int) := by omega
      go_wp2_with fail
      refine (pick_any _ base B a len cap _ 8 H.out (by omega) (by omega)).mono ?_
      rintro e w2 ⟨y, y0, y1, rfl, hr, hg, hs⟩
      have hO := World.ownsRow.kept O.out hg (.inr (show some b ≠ some B by intro e; have := Option.some.inj e; omega))
      have hG := gtr' G.out hg
      have hgA := Draw.grown_alloc w2 (.cells #[.int .i64 y] 3) none
      have OA := Lib.hid (OZ.keptN hO hgA)
      have GA := Lib.hid (chB hG hgA); have HA := Lib.hid (rdN hr hgA)
      have CA := Lib.hid (Blk.new w2 #[.int .i64 y] 3)
      have hw2 := hG.size
      clear hr hg hs hO hG hgA O G H
      go_wp2_with (at_builtin; refine app_Z rfl _ _ rfl w.heap.size z (fun _ => y) b q c rfl OA.out w2.heap.size 0 1 1 rfl (one_Z CA.out) (by omega) (by rw [World.size_alloc]; omega) ?_; intro b' c' w3 hO3 hg3; have O3 := Lib.hid hO3; have G3 := Lib.hid (grown_any GA.out hg3 (.inr hbo.1)); have H3 := Lib.hid (HA.out.grownN hg3 (by omega) (by omega)); clear hO3 hg3)
      go_roundw
      case rel => exact ⟨k - 1, q + 1, b', c', p1 + 1, _, by go_num, by omega, rfl, O3.out, G3.out, H3.out, by omega⟩
      case measure => simp [intOf]; omega
/-- One of some texts. -/
def TxtIn (w : World) (b n : Nat) : Prop := b < w.heap.size ∧ ∀ j, j < n → ∃ s, w.cell? ⟨b, j, none⟩ = some (.string s)
theorem TxtIn.kept {w w' : World} {b n : Nat} {r : Option Nat} (h : TxtIn w b n) (hg : w.grownBy w' r) (hb : some b ≠ r) : TxtIn w' b n :=
  ⟨Nat.lt_of_lt_of_le h.1 hg.size, fun j hj => by
    obtain ⟨s, hc⟩ := h.2 j hj
    exact ⟨s, (World.cell?_of_block (hg.block _ h.1 hb)).trans hc⟩⟩
theorem txt4 {w : World} {b : Nat} {s0 s1 s2 s3 : ByteArray} {T : TypeId} (h : Blk w b #[.string s0, .string s1, .string s2, .string s3] T) : TxtIn w b 4 :=
  ⟨h.lt, fun j hj => by
    rcases (by omega : j = 0 ∨ j = 1 ∨ j = 2 ∨ j = 3) with rfl | rfl | rfl | rfl
    · exact ⟨_, h.cell 0⟩
    · exact ⟨_, h.cell 1⟩
    · exact ⟨_, h.cell 2⟩
    · exact ⟨_, h.cell 3⟩⟩
theorem txt3 {w : World} {b : Nat} {s0 s1 s2 : ByteArray} {T : TypeId} (h : Blk w b #[.string s0, .string s1, .string s2] T) : TxtIn w b 3 :=
  ⟨h.lt, fun j hj => by
    rcases (by omega : j = 0 ∨ j = 1 ∨ j = 2) with rfl | rfl | rfl
    · exact ⟨_, h.cell 0⟩
    · exact ⟨_, h.cell 1⟩
    · exact ⟨_, h.cell 2⟩⟩
theorem ofp_any (w : World) (base B : Nat) (a : Option Addr) (len cap p : Nat) (h : Rd w base B a len cap p) (hp : p ≤ 200000000) (b n : Nat) (hS : TxtIn w b n) (hb : b ≠ B) (hn : 1 ≤ n) (hn2 : n ≤ 1000) :
    Calls Try.prog 66 #[.pointer (some ⟨B, 0, none⟩), .slice (some ⟨b, 0, none⟩) n n] w fun e w' => ∃ s, e = .returned (.string s) ∧ w.grownBy w' (some B) ∧ Rd w' base B a len cap (p + 1) := by
  have H := Lib.hid hS; clear hS
  go_enter Try.func66, Try.ntmps66
  go_wp2_with fail
  refine (pick_any _ base B a len cap p n h (by omega) (by omega)).mono ?_
  rintro e w1 ⟨x, x0, x1, rfl, hr, hg, hs⟩
  have HR := Lib.hid hr; have HG := Lib.hid hg; have HS := Lib.hid hs; clear hr hg hs h
  obtain ⟨q, rfl⟩ := Int.eq_ofNat_of_zero_le x0
  obtain ⟨s, hc⟩ := (H.out.kept HG.out (by intro e; have := Option.some.inj e; omega)).2 q (by omega)
  have hq : q < n := by omega
  go_wp2
  go_ret
  exact ⟨s, rfl, HG.out, HR.out⟩
/-- What drawing a policy leaves. -/
def GotPol (w : World) (base B : Nat) (a : Option Addr) (len cap p : Nat) (e : Ending) (w' : World) : Prop :=
  ∃ (b n c : Nat) (R : Nat → ByteArray) (b2 m c2 : Nat) (U : Nat → RV) (p' : Nat), e = .returned (.tuple #[.slice (some ⟨b, 0, none⟩) n c, .slice (some ⟨b2, 0, none⟩) m c2]) ∧ n ≤ 7 ∧ m ≤ 5 ∧ OS w' w.heap.size b n c R ∧ OU w' w.heap.size b2 m c2 U ∧ w.grownBy w' (some B) ∧ Rd w' base B a len cap p' ∧ p' ≤ p + 40
theorem OS.ne {W : World} {lo lo' b n c b' n' c' : Nat} {R : Nat → ByteArray} {U : Nat → RV} (h : OS W lo b n c R) (h' : OU W lo' b' n' c' U) : some b ≠ some b' := own_neP h h' (by decide)
set_option maxRecDepth 100000 in
set_option maxHeartbeats 8000000 in
theorem policy_any (w : World) (base B : Nat) (a : Option Addr) (len cap p : Nat) (h : Rd w base B a len cap p) (hp : p ≤ 100000000) :
    Calls Try.prog 59 #[.pointer (some ⟨B, 0, none⟩)] w (GotPol w base B a len cap p) := by
  have hBw := h.lt
  have hbase := h.from_
  have hO := own_nil (s := 1) (cs := sC (fun _ => noS)) (Blk.new w #[] 9) (Nat.le_refl _)
  have H0 := Lib.hid (h.alloc (.cells #[] 9)); have O0 := Lib.hid hO
  have G0 := Lib.hid (Draw.grown_alloc w (.cells #[] 9) (some B))
  clear h hO
  go_enter Try.func59, Try.ntmps59
  go_wp2_with fail
  refine (pick_any _ base B a len cap _ 7 H0.out (by omega) (by omega)).mono ?_
  rintro e w1 ⟨x, x0, x1, rfl, hr, hg, hs⟩
  obtain ⟨n, rfl⟩ := Int.eq_ofNat_of_zero_le x0
  have hsz : w.heap.size + 1 ≤ (w.alloc (.cells #[] 9)).heap.size := by rw [World.size_alloc]; exact Nat.le_refl _
  have H := Lib.hid hr; have G := Lib.hid (gtr' G0.out hg); have O := Lib.hid (World.ownsRow.kept O0.out hg (.inr (show some w.heap.size ≠ some B by intro e; have := Option.some.inj e; omega)))
  clear hr hg hs H0 O0 G0 hsz
  go_wp2
  go_loopw [4, 5] (fun u i wr => ∃ (k q b c p' : Nat) (R : Nat → ByteArray), i = .int .i64 k ∧ k + q ≤ 6 ∧ u = .slice (some ⟨b, 0, none⟩) q c ∧ OS wr w.heap.size b q c R ∧ w.grownBy wr (some B) ∧ Rd wr base B a len cap p' ∧ p' + k ≤ p + 7) (fun _ i _ => (intOf i).toNat)
  case atStart => exact ⟨n, 0, _, _, _, _, rfl, by omega, rfl, O.out, G.out, H.out, by omega⟩
  case round =>
    clear H G O
    obtain ⟨k, q, b, c, p1, R, rfl, hk, rfl, ho, hg, hr⟩ := hrel
    obtain ⟨hr, hp1⟩ := hr
    have O := Lib.hid ho; have G := Lib.hid hg; have H := Lib.hid hr
    have hw1 := hg.size
    have hbo := ho.lt
    clear ho hg hr
    by_cases h0 : k = 0
    · subst h0
      have hO2 := own_nil (lo := w.heap.size) (s := 3) (cs := uC (fun _ => ⟨noS, 0, 0⟩)) (Blk.new wr #[] 39) hw1
      have hgA := Draw.grown_alloc wr (.cells #[] 39) none
      have OA := Lib.hid (O.out.keptN hgA); have GA := Lib.hid (chB G.out hgA); have HA := Lib.hid (rdN H.out hgA); have PA := Lib.hid (show OU _ w.heap.size wr.heap.size 0 0 (fun _ => ⟨noS, 0, 0⟩) from hO2)
      clear hO2 hgA O G H
      go_wp2_with fail
      refine (pick_any _ base B a len cap _ 5 HA.out (by omega) (by omega)).mono ?_
      rintro e w2 ⟨y, y0, y1, rfl, hr, hg, hs⟩
      obtain ⟨n2, rfl⟩ := Int.eq_ofNat_of_zero_le y0
      have H := Lib.hid hr; have G := Lib.hid (gtr' GA.out hg); have O := Lib.hid (OA.out.kept hg (by intro e; have := Option.some.inj e; omega)); have P := Lib.hid (PA.out.kept hg (by intro e; have := Option.some.inj e; omega))
      clear hr hg hs HA GA OA PA
      go_wp2
      go_loopw [6, 7] (fun u i wr => ∃ (k m b2 c2 p' : Nat) (U : Nat → RV), i = .int .i64 k ∧ k + m ≤ 4 ∧ u = .slice (some ⟨b2, 0, none⟩) m c2 ∧ OU wr w.heap.size b2 m c2 U ∧ OS wr w.heap.size b q c R ∧ w.grownBy wr (some B) ∧ Rd wr base B a len cap p' ∧ p' + 3 * k ≤ p + 20) (fun _ i _ => (intOf i).toNat)
      case atStart => exact ⟨n2, 0, _, _, _, _, rfl, by omega, rfl, P.out, O.out, G.out, H.out, by omega⟩
      case round =>
        clear H G O P
        obtain ⟨k, m, b2, c2, p2, U, rfl, hk2, rfl, hp0, ho, hg, hr⟩ := hrel
        obtain ⟨hr, hp2⟩ := hr
        have P := Lib.hid hp0; have O := Lib.hid ho; have G := Lib.hid hg; have H := Lib.hid hr
        have hw1 := hg.size
        have hbp := hp0.lt
        clear hp0 ho hg hr
        by_cases h0 : k = 0
        · subst h0
          go_wp2_with fail
          refine (pick_any _ base B a len cap _ 40 H.out (by omega) (by omega)).mono ?_
          rintro e w3 ⟨x, x0, x1, rfl, hr, hg, hs⟩
          have H3 := Lib.hid hr; have G3 := Lib.hid (gtr' G.out hg); have O3 := Lib.hid (O.out.kept hg (by intro e; have := Option.some.inj e; omega)); have P3 := Lib.hid (P.out.kept hg (by intro e; have := Option.some.inj e; omega))
          have hw3 := G3.out.size
          clear hr hg hs H G O P
          rcases (by omega : x = 0 ∨ x = 1 ∨ 2 ≤ x) with rfl | rfl | hx
          · have hgA := Draw.grown_alloc w3 (.cells #[.string ⟨#[100]⟩] 9) none
            have OA := Lib.hid (O3.out.keptN hgA); have PA := Lib.hid (P3.out.keptN hgA); have GA := Lib.hid (chB G3.out hgA); have HA := Lib.hid (rdN H3.out hgA)
            have CA := Lib.hid (Blk.new w3 #[.string ⟨#[100]⟩] 9)
            clear hgA O3 P3 G3 H3
            go_wp2_with (at_builtin; refine app_S rfl _ _ rfl w.heap.size R (fun _ => ⟨#[100]⟩) b q c rfl OA.out w3.heap.size 0 1 1 rfl (one_S CA.out) (by omega) (by rw [World.size_alloc]; omega) ?_; intro b' c' w4 hO4 hg4; have P4 := Lib.hid (PA.out.kept hg4 (fun e => OA.out.ne PA.out e.symm)); have O4 := Lib.hid hO4; have G4 := Lib.hid (grown_any GA.out hg4 (.inr hbo.1)); have H4 := Lib.hid (HA.out.grownN hg4 (by omega) (by omega)); clear hO4 hg4)
            go_ret2
            exact ⟨b', q + 1, c', _, b2, m, c2, U, _, rfl, by omega, by omega, O4.out, P4.out, G4.out, H4.out, by omega⟩
          · go_wp2_with fail
            refine (pick_any _ base B a len cap _ 101 H3.out (by omega) (by omega)).mono ?_
            rintro e w4 ⟨y, y0, y1, rfl, hr, hg, hs⟩
            have hG := gtr' G3.out hg; have hO := O3.out.kept hg (by intro e; have := Option.some.inj e; omega); have hP := P3.out.kept hg (by intro e; have := Option.some.inj e; omega)
            have hw4 := hG.size
            have hgA := Draw.grown_alloc w4 (.cells #[.string ⟨#[97]⟩, .int .i64 0, .int .i64 y] 39) none
            have OA := Lib.hid (hO.keptN hgA); have PA := Lib.hid (hP.keptN hgA); have GA := Lib.hid (chB hG hgA); have HA := Lib.hid (rdN hr hgA)
            have CA := Lib.hid (Blk.new w4 #[.string ⟨#[97]⟩, .int .i64 0, .int .i64 y] 39)
            clear hr hg hs hG hO hP hgA O3 P3 G3 H3
            go_wp2_with (at_builtin; refine app_U rfl _ _ rfl w.heap.size U (fun _ => ⟨⟨#[97]⟩, 0, y⟩) b2 m c2 rfl PA.out w4.heap.size 0 1 1 rfl (one_U CA.out) (by omega) (by rw [World.size_alloc]; omega) ?_; intro b' c' w5 hO5 hg5; have O5 := Lib.hid (OA.out.kept hg5 (fun e => OA.out.ne PA.out e)); have P5 := Lib.hid hO5; have G5 := Lib.hid (grown_any GA.out hg5 (.inr hbp.1)); have H5 := Lib.hid (HA.out.grownN hg5 (by omega) (by omega)); clear hO5 hg5)
            go_ret2
            exact ⟨b, q, c, R, b', m + 1, c', _, _, rfl, by omega, by omega, O5.out, P5.out, G5.out, H5.out, by omega⟩
          · have e0 : (x == 0) = false := by simp; omega
            have e1 : (x == 1) = false := by simp; omega
            go_wp2
            go_ret2
            exact ⟨b, q, c, R, b2, m, c2, U, _, rfl, by omega, by omega, O3.out, P3.out, G3.out, H3.out, by omega⟩
        · have hk0 : (0 : Int) < (k : Int) := by omega
          have hgA := Draw.grown_alloc wr (.cells #[.string ⟨#[97]⟩, .string ⟨#[97]⟩, .string ⟨#[98]⟩, .string ⟨#[99]⟩] 9) none
          have OA := Lib.hid (O.out.keptN hgA); have PA := Lib.hid (P.out.keptN hgA); have GA := Lib.hid (chB G.out hgA); have HA := Lib.hid (rdN H.out hgA)
          have TA := Lib.hid (txt4 (Blk.new wr #[.string ⟨#[97]⟩, .string ⟨#[97]⟩, .string ⟨#[98]⟩, .string ⟨#[99]⟩] 9))
          clear hgA O P G H
          go_wp2_with fail
          refine (ofp_any _ base B a len cap _ HA.out (by omega) wr.heap.size 4 TA.out (by omega) (by omega) (by omega)).mono ?_
          rintro e w3 ⟨s, rfl, hg, hr⟩
          have H := Lib.hid hr; have G := Lib.hid (gtr' GA.out hg); have O := Lib.hid (OA.out.kept hg (by intro e; have := Option.some.inj e; omega)); have P := Lib.hid (PA.out.kept hg (by intro e; have := Option.some.inj e; omega))
          clear hg hr TA OA PA GA HA
          go_wp2_with fail
          refine (pick_any _ base B a len cap _ 3 H.out (by omega) (by omega)).mono ?_
          rintro e w4 ⟨x, x0, x1, rfl, hr, hg, hs⟩
          have H4 := Lib.hid hr; have G4 := Lib.hid (gtr' G.out hg); have O4 := Lib.hid (O.out.kept hg (by intro e; have := Option.some.inj e; omega)); have P4 := Lib.hid (P.out.kept hg (by intro e; have := Option.some.inj e; omega))
          clear hg hr hs H G O P
          go_wp2_with fail
          refine (pick_any _ base B a len cap _ 100 H4.out (by omega) (by omega)).mono ?_
          rintro e w5 ⟨y, y0, y1, rfl, hr, hg, hs⟩
          have hG := gtr' G4.out hg; have hO := O4.out.kept hg (by intro e; have := Option.some.inj e; omega); have hP := P4.out.kept hg (by intro e; have := Option.some.inj e; omega)
          have hw4 := hG.size
          have hgA := Draw.grown_alloc w5 (.cells #[.string s, .int .i64 (1 + x), .int .i64 y] 39) none
          have OA := Lib.hid (hO.keptN hgA); have PA := Lib.hid (hP.keptN hgA); have GA := Lib.hid (chB hG hgA); have HA := Lib.hid (rdN hr hgA)
          have CA := Lib.hid (Blk.new w5 #[.string s, .int .i64 (1 + x), .int .i64 y] 39)
          clear hr hg hs hG hO hP hgA O4 P4 G4 H4
          go_wp2_with (at_builtin; refine app_U rfl _ _ rfl w.heap.size U (fun _ => ⟨s, 1 + x, y⟩) b2 m c2 rfl PA.out w5.heap.size 0 1 1 rfl (one_U CA.out) (by omega) (by rw [World.size_alloc]; omega) ?_; intro b' c' w6 hO5 hg5; have O5 := Lib.hid (OA.out.kept hg5 (fun e => OA.out.ne PA.out e)); have P5 := Lib.hid hO5; have G5 := Lib.hid (grown_any GA.out hg5 (.inr hbp.1)); have H5 := Lib.hid (HA.out.grownN hg5 (by omega) (by omega)); clear hO5 hg5)
          go_roundw
          case rel => exact ⟨k - 1, m + 1, b', c', _, _, by go_num, by omega, rfl, P5.out, O5.out, G5.out, H5.out, by omega⟩
          case measure => simp [intOf]; omega
    · have hk0 : (0 : Int) < (k : Int) := by omega
      have hgA := Draw.grown_alloc wr (.cells #[.string ⟨#[97]⟩, .string ⟨#[97]⟩, .string ⟨#[98]⟩, .string ⟨#[99]⟩] 9) none
      have OA := Lib.hid (O.out.keptN hgA); have GA := Lib.hid (chB G.out hgA); have HA := Lib.hid (rdN H.out hgA)
      have TA := Lib.hid (txt4 (Blk.new wr #[.string ⟨#[97]⟩, .string ⟨#[97]⟩, .string ⟨#[98]⟩, .string ⟨#[99]⟩] 9))
      clear hgA O G H
      go_wp2_with fail
      refine (ofp_any _ base B a len cap _ HA.out (by omega) wr.heap.size 4 TA.out (by omega) (by omega) (by omega)).mono ?_
      rintro e w3 ⟨s, rfl, hg, hr⟩
      have hG := gtr' GA.out hg; have hO := OA.out.kept hg (by intro e; have := Option.some.inj e; omega)
      have hw4 := hG.size
      have hgB := Draw.grown_alloc w3 (.cells #[.string s] 9) none
      have OB := Lib.hid (hO.keptN hgB); have GB := Lib.hid (chB hG hgB); have HB := Lib.hid (rdN hr hgB)
      have CB := Lib.hid (Blk.new w3 #[.string s] 9)
      clear hr hg hG hO hgB TA OA GA HA
      go_wp2_with (at_builtin; refine app_S rfl _ _ rfl w.heap.size R (fun _ => s) b q c rfl OB.out w3.heap.size 0 1 1 rfl (one_S CB.out) (by omega) (by rw [World.size_alloc]; omega) ?_; intro b' c' w4 hO4 hg4; have O4 := Lib.hid hO4; have G4 := Lib.hid (grown_any GB.out hg4 (.inr hbo.1)); have H4 := Lib.hid (HB.out.grownN hg4 (by omega) (by omega)); clear hO4 hg4)
      go_roundw
      case rel => exact ⟨k - 1, q + 1, b', c', _, _, by go_num, by omega, rfl, O4.out, G4.out, H4.out, by omega⟩
      case measure => simp [intOf]; omega
end Po
end Go.Proofs.Ythbigmcklacbnaa
