/-
  How the model draws members who may sign.
-/
import Derived.Test.YthbigmcklacbnaaGreatDoorGd
namespace Go.Proofs.YthbigmcklacbnaaGreatDoor
namespace Draw
open Go.RowKit Alg Mem Con Mp Hd
set_option linter.unusedVariables false

/-- What holds while members are drawn. -/
structure MSt (w : World) (base B : Nat) (a : Option Addr) (len cap p' need many : Nat) (s1 s2 : Value) (W : World) (v : Value) (l : List Int) : Prop where
  own : Lst W (w.heap.size + 1) v l
  g : w.grownBy W (some B)
  rd : Rd W base B a len cap p'
  ky : Ky W w.heap.size need many s1 s2
  al : ∀ j, j < l.length → 1 ≤ li l j ∧ li l j ≤ (many : Int)
theorem MSt.step {w : World} {base B : Nat} {a : Option Addr} {len cap p' p2 need many : Nat} {s1 s2 : Value} {W W' : World} {v : Value} {l : List Int} (h : MSt w base B a len cap p' need many s1 s2 W v l) (hB : B < w.heap.size) (hg : W.grownBy W' (some B)) (hr : Rd W' base B a len cap p2) : MSt w base B a len cap p2 need many s1 s2 W' v l :=
  ⟨h.own.keptB hg (by omega), gtr' h.g hg, hr, h.ky.keptB (hg.block _ h.ky.lt (by intro e; have e := Option.some.inj e; omega)) hg.size, h.al⟩
theorem MSt.app {w W W' : World} {base B : Nat} {a : Option Addr} {len cap p' need many : Nat} {s1 s2 : Value} {v v' : Value} {l : List Int} {n : Int} {o : Obj} (h : MSt w base B a len cap p' need many s1 s2 W v l) (hB : B < w.heap.size) (h1 : 1 ≤ n) (h2 : n ≤ (many : Int)) (hg : (W.alloc o).grownBy W' v.ownBlock) (ho : W'.ownsRow (w.heap.size + 1) 3 1 v' (l.length + 1) (vals (li l) l.length ++ [.int .i64 n])) : MSt w base B a len cap p' need many s1 s2 W' v' (l ++ [n]) := by
  have hg' : W.grownBy W' v.ownBlock := grown_trans (grown_alloc W o _) hg
  have hne : ∀ b, b < w.heap.size + 1 → some b ≠ v.ownBlock := fun b hb => h.own.own_ne hb
  have hlt := h.rd.lt; have hfr := h.rd.from_
  refine ⟨Lst.app ho, ?_, h.rd.kept (fun j hj => hg'.block j (by omega) (hne j (by omega))) (hg'.block B hlt (hne B (by omega))), h.ky.keptB (hg'.block _ h.ky.lt (hne _ (by omega))) hg'.size, ?_⟩
  · rcases h.own with ⟨rfl, _⟩ | ⟨b, c, rfl, hr⟩
    · exact grown_trans h.g (grown_some hg')
    · exact grown_newR (B := b) h.g (by have := hr.from_; omega) hg'
  · intro j hj
    simp at hj
    by_cases e : j = l.length
    · subst e; rw [li_last]; exact ⟨h1, h2⟩
    · rw [li_app (by omega)]; exact h.al j (by omega)
/-- Members, drawn. -/
def GotM (w : World) (base B : Nat) (a : Option Addr) (len cap p many : Nat) (e : Ending) (w' : World) : Prop :=
  ∃ (am : Option Addr) (nm cm : Nat) (zm : Nat → Int), e = .returned (.slice am nm cm) ∧ IR w' w.heap.size w'.heap.size am nm zm ∧ nm ≤ 6 ∧ nm ≤ cm ∧ cm ≤ maxLen ∧ (∀ j, j < nm → 1 ≤ zm j ∧ zm j ≤ (many : Int)) ∧ w.grownBy w' (some B) ∧ ∃ p', p ≤ p' ∧ p' ≤ p + 8 ∧ Rd w' base B a len cap p'
set_option maxRecDepth 100000 in
set_option maxHeartbeats 4000000 in
theorem members_any (w : World) (base B : Nat) (a : Option Addr) (len cap p : Nat) (h : Rd w base B a len cap p) (hp : p ≤ 1000000) (need many : Nat) (s1 s2 : Value) (h1 : 1 ≤ need) (h2 : need ≤ many) (h6 : many ≤ 6) :
    Calls Tryz.prog 13 #[.pointer (some ⟨B, 0, none⟩), .agg #[.int .i64 need, .int .i64 many, s1, s2]] w (GotM w base B a len cap p many) := by
  have hBw := h.lt
  obtain ⟨i0, hi, hz0, hz1, hz2⟩ := info_parts info_int
  have hs0 : (w.alloc (.cells #[.int .i64 need, .int .i64 many, s1, s2] 25)).heap.size = w.heap.size + 1 := by show (w.heap.push _).size = _; simp
  have hL := lst_empty (w.alloc (.cells #[.int .i64 need, .int .i64 many, s1, s2] 25))
  rw [hs0] at hL
  have H0 := Lib.hid (show MSt w base B a len cap p need many s1 s2 ((w.alloc (.cells #[.int .i64 need, .int .i64 many, s1, s2] 25)).alloc (.cells #[] 3)) (.slice (some ⟨w.heap.size + 1, 0, none⟩) 0 0) [] from
    ⟨hL, gtr' (grown_alloc w _ _) (grown_alloc _ _ _), (h.alloc _).alloc _, (Ky.new w need many s1 s2 25).kept (grown_alloc _ _ _), fun j hj => by simp at hj⟩)
  clear hL hs0 h
  go_enter Tryz.func13, Tryz.ntmps13
  go_wp2
  go_loopw [5, 6] (fun u i W => ∃ (k q p' : Nat) (l : List Int), k ≤ many ∧ i = .int .i64 ((k : Int) + 1) ∧ l.length = q ∧ q ≤ k ∧ need ≤ q + (many - k) ∧ p ≤ p' ∧ p' ≤ p + k ∧ MSt w base B a len cap p' need many s1 s2 W u l) (fun _ i _ => many + 1 - (intOf i).toNat)
  case atStart => exact ⟨0, 0, p, [], by omega, rfl, rfl, by omega, by omega, by omega, by omega, H0.out⟩
  case round =>
    obtain ⟨k, q, p1, l, hk, rfl, hq, hqk, hnq, hp0, hp1, hs⟩ := hrel
    obtain ⟨W1, hW⟩ : ∃ W, W = wr := ⟨_, rfl⟩; subst hW
    obtain ⟨v1, hW⟩ : ∃ W, W = u5 := ⟨_, rfl⟩; subst hW
    have HS := Lib.hid hs; clear hs
    subst hq
    have k1 : W1.cell? ⟨w.heap.size, 1, none⟩ = some (.int .i64 (many : Int)) := HS.out.ky.c1
    by_cases hlt : k < many
    · have hlt' : (k : Int) + 1 ≤ (many : Int) := by omega
      go_wp2_with fail
      refine (pick_any _ base B a len cap p1 3 HS.out.rd (by omega) (by omega)).mono ?_
      rintro e W2 ⟨x, x0, x1, rfl, hr, hg, hsz⟩
      have HS2 := Lib.hid (HS.out.step hBw hg hr)
      clear hr hg hsz k1
      have k1 : W2.cell? ⟨w.heap.size, 1, none⟩ = some (.int .i64 (many : Int)) := HS2.out.ky.c1
      have k0 : W2.cell? ⟨w.heap.size, 0, none⟩ = some (.int .i64 (need : Int)) := HS2.out.ky.c0
      obtain ⟨av, cv, rfl, _, hvc, hvm⟩ := HS2.out.own.slice
      rcases (by omega : x = 0 ∨ 1 ≤ x) with rfl | hx
      · by_cases hc : (many : Int) - ((k : Int) + 1) < (need : Int) - (l.length : Int)
        · skip
          have HZ := Lib.hid (HS2.out.own.alloc (.cells #[.int .i64 ((k : Int) + 1)] 3)).owns
          have hw2 := HS2.out.g.size
          have hw3 : w.heap.size + 1 ≤ W2.heap.size := HS2.out.ky.lt
          have hql : l.length ≤ 6 := by omega
          go_wp2_with (at_builtin; refine wpList_append_own _ rfl _ _ 23 rfl (w.heap.size + 1) 3 i0 (.int .i64 0) 1 8 und_ints hi hz0 hz1 hz2 rfl (by decide) _ _ (vals (li l) l.length) rfl HZ.out ⟨W2.heap.size, 0, none⟩ 1 1 [.int .i64 ((k : Int) + 1)] rfl rfl (cell_one_new _ _ _) (by simp [Value.oneCell']) (by unfold maxLen; omega) (by omega) (by simp; omega) ?_; intro v' w3 hown' hgrow _)
          have HS4 := Lib.hid (HS2.out.app hBw (by omega) hlt' hgrow hown')
          clear hown' hgrow
          go_wp2
          go_roundw
          case rel => exact ⟨k + 1, l.length + 1, p1 + 1, _, by omega, by go_num, by simp, by omega, by omega, by omega, by omega, HS4.out⟩
          case measure => simp [intOf]; omega
        · go_wp2
          go_roundw
          case rel => exact ⟨k + 1, l.length, p1 + 1, _, by omega, by go_num, rfl, by omega, by omega, by omega, by omega, HS2.out⟩
          case measure => simp [intOf]; omega
      · have hx' : (0 : Int) < x := by omega
        have HZ := Lib.hid (HS2.out.own.alloc (.cells #[.int .i64 ((k : Int) + 1)] 3)).owns
        have hw2 := HS2.out.g.size
        have hw3 : w.heap.size + 1 ≤ W2.heap.size := HS2.out.ky.lt
        have hql : l.length ≤ 6 := by omega
        go_wp2_with (at_builtin; refine wpList_append_own _ rfl _ _ 23 rfl (w.heap.size + 1) 3 i0 (.int .i64 0) 1 8 und_ints hi hz0 hz1 hz2 rfl (by decide) _ _ (vals (li l) l.length) rfl HZ.out ⟨W2.heap.size, 0, none⟩ 1 1 [.int .i64 ((k : Int) + 1)] rfl rfl (cell_one_new _ _ _) (by simp [Value.oneCell']) (by unfold maxLen; omega) (by omega) (by simp; omega) ?_; intro v' w3 hown' hgrow _)
        have HS4 := Lib.hid (HS2.out.app hBw (by omega) hlt' hgrow hown')
        clear hown' hgrow
        go_wp2
        go_roundw
        case rel => exact ⟨k + 1, l.length + 1, p1 + 1, _, by omega, by go_num, by simp, by omega, by omega, by omega, by omega, HS4.out⟩
        case measure => simp [intOf]; omega
    · obtain rfl : k = many := by omega
      have hlt' : ¬ (k : Int) + 1 ≤ (k : Int) := by omega
      go_wp2_with fail
      refine (pick_any _ base B a len cap p1 24 HS.out.rd (by omega) (by omega)).mono ?_
      rintro e W2 ⟨x, x0, x1, rfl, hr, hg, hsz⟩
      have HS2 := Lib.hid (HS.out.step hBw hg hr)
      clear hr hg hsz k1
      have hq1 : 1 ≤ l.length := by omega
      have hq6 : l.length ≤ 6 := by omega
      have hlk : w.heap.size + 1 ≤ W2.heap.size := HS2.out.ky.lt
      rcases HS2.out.own with ⟨rfl, hnil⟩ | ⟨b, c, rfl, hrow⟩
      · rw [hnil] at hq1; simp at hq1
      have HR := Lib.hid hrow
      have hb := hrow.from_
      have hbl := hrow.lt
      have hc1 := hrow.le; have hc2 := hrow.most
      clear hrow
      rcases (by omega : x = 0 ∨ 1 ≤ x) with rfl | hx
      · by_cases hcc : c = 1
        · subst hcc
          go_wp2
          go_ret
          exact ⟨_, _, 0, fun j => li l (j + 1), rfl, ⟨.inl (by omega), fun b' off e => by injection e with e; injection e with e _; omega⟩, by omega, by omega, by omega, fun j hj => by omega, HS2.out.g, p1 + 1, by omega, by omega, HS2.out.rd⟩
        · go_wp2
          go_ret
          refine ⟨_, _, c - 1, fun j => li l (j + 1), rfl, ⟨?_, fun b' off e => by injection e with e; injection e with e _; omega⟩, by omega, by omega, by omega, fun j hj => HS2.out.al (j + 1) (by omega), HS2.out.g, p1 + 1, by omega, by omega, HS2.out.rd⟩
          rcases HR.out.ints with h0 | ⟨b', off, he, hb', hcel⟩
          · omega
          · injection he with he; injection he with e1 e2; subst e1; subst e2
            refine .inr ⟨b, 1, rfl, hb', fun j hj => ?_⟩
            have := hcel (j + 1) (by omega)
            rw [show (0 : Nat) + (j + 1) = 1 + j by omega] at this
            exact this
      · have e0 : (x == 0) = false := by simp; omega
        go_wp2
        go_ret
        exact ⟨_, _, c, li l, rfl, ⟨HR.out.ints, fun b' off e => by injection e with e; injection e with e _; omega⟩, by omega, hc1, hc2, HS2.out.al, HS2.out.g, p1 + 1, by omega, by omega, HS2.out.rd⟩
end Draw
end Go.Proofs.YthbigmcklacbnaaGreatDoor
