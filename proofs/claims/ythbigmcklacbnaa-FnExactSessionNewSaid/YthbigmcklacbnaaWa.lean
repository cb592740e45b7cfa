/-
  Sessions that a function made, marked: whatever their slices are; what else lies in memory stays.
-/
import Derived.Test.YthbigmcklacbnaaTm
import Derived.Test.YthbigmcklacbnaaUc
namespace Go.Proofs.Ythbigmcklacbnaa
namespace Con
open Go.RowKit Alg Mem Draw Hd
set_option linter.unusedVariables false

/-- Only blocks from lo to hi, and new ones, may have turned. -/
structure GR (w : World) (lo hi : Nat) (w' : World) : Prop where
  os : w'.os = w.os
  tape : w'.tape = w.tape
  output : w'.output = w.output
  size : w.heap.size ≤ w'.heap.size
  block : ∀ k, k < w.heap.size → (k < lo ∨ hi ≤ k) → w'.heap[k]? = w.heap[k]?
theorem GR.step {w a b : World} {lo hi : Nat} {r : Option Nat} (h : GR w lo hi a) (k : a.grownBy b r) (hr : ∀ g, r = some g → (lo ≤ g ∧ g < hi) ∨ w.heap.size ≤ g) : GR w lo hi b :=
  ⟨k.os.trans h.os, k.tape.trans h.tape, k.output.trans h.output, Nat.le_trans h.size k.size, fun i hi' ho =>
    (k.block i (Nat.lt_of_lt_of_le hi' h.size) (by
      intro e
      rcases hr i e.symm with h1 | h1 <;> omega)).trans (h.block i hi' ho)⟩
theorem GR.none {w a b : World} {lo hi : Nat} (h : GR w lo hi a) (k : a.grownBy b none) : GR w lo hi b := h.step k (fun g e => by cases e)
theorem GR.refl (w : World) (lo hi : Nat) : GR w lo hi w := ⟨rfl, rfl, rfl, Nat.le_refl _, fun _ _ _ => rfl⟩
theorem chQ {w0 w w' : World} {lo hi : Nat} (G : w0.grownBy w Option.none) (hg : GR w lo hi w') (hlo : w0.heap.size ≤ lo) : w0.grownBy w' Option.none :=
  ⟨hg.os.trans G.os, hg.tape.trans G.tape, hg.output.trans G.output, Nat.le_trans G.size hg.size, fun k hk hne => (hg.block k (Nat.lt_of_lt_of_le hk G.size) (.inl (by omega))).trans (G.block k hk hne)⟩
theorem ints_Q {w w' : World} {lo hi : Nat} {a : Option Addr} {n : Nat} {z : Nat → Int} (h : Ints w a n z) (hg : GR w lo hi w') (hr : ∀ b off, a = some ⟨b, off, .none⟩ → b < lo ∨ hi ≤ b) : Ints w' a n z := by
  rcases h with h | ⟨b, off, ha, hl, hc⟩
  · exact .inl h
  · exact .inr ⟨b, off, ha, Nat.lt_of_lt_of_le hl hg.size, fun j hj => (World.cell?_of_block (hg.block b hl (hr b off ha))).trans (hc j hj)⟩
theorem sh_Q {w w' : World} {lo hi : Nat} {a : Option Addr} {n : Nat} {S : Nat → SV} (h : ShIn w a n S) (hg : GR w lo hi w') (hr : ∀ b off, a = some ⟨b, off, .none⟩ → b < lo ∨ hi ≤ b) : ShIn w' a n S := by
  rcases h with h | ⟨b, off, ha, hl, hc⟩
  · exact .inl h
  · refine .inr ⟨b, off, ha, Nat.lt_of_lt_of_le hl hg.size, fun j hj => ?_⟩
    obtain ⟨h0, h1, h2, h3⟩ := hc j hj
    have e := hg.block b hl (hr b off ha)
    exact ⟨(World.cell?_of_block e).trans h0, (World.cell?_of_block e).trans h1, (World.cell?_of_block e).trans h2, (World.cell?_of_block e).trans h3⟩
theorem own_Q {w w' : World} {lo hi base s n : Nat} {T : TypeId} {v : Value} {xs : List Value} (h : w.ownsRow base T s v n xs) (hg : GR w lo hi w') (hb : hi ≤ base) : w'.ownsRow base T s v n xs := by
  refine ⟨h.1, ?_⟩
  rcases h.2 with h1 | ⟨g, c, cur, hv, hlo, hcur, h2⟩
  · exact .inl h1
  · refine .inr ⟨g, c, cur, hv, hlo, ?_, h2⟩
    have hl : g < w.heap.size := (Array.getElem?_eq_some_iff.1 hcur).1
    rw [hg.block g hl (.inr (by omega))]; exact hcur
theorem blk_Q {w w' : World} {lo hi b : Nat} {vs : Array Value} {T : TypeId} (h : Blk w b vs T) (hg : GR w lo hi w') (hb : b < lo ∨ hi ≤ b) : Blk w' b vs T := (hg.block b h.lt hb).trans h
/-- Three slices of a session, and where they lie. -/
structure S3 (w : World) (lo hi : Nat) (a1 : Option Addr) (n1 : Nat) (z1 : Nat → Int) (a2 : Option Addr) (n2 : Nat) (z2 : Nat → Int) (a3 : Option Addr) (n : Nat) (S : Nat → SV) : Prop where
  i1 : Ints w a1 n1 z1
  i2 : Ints w a2 n2 z2
  i3 : ShIn w a3 n S
  r1 : 1 ≤ n1 → ∀ b off, a1 = some ⟨b, off, .none⟩ → lo ≤ b ∧ b < hi
  r2 : 1 ≤ n2 → ∀ b off, a2 = some ⟨b, off, .none⟩ → lo ≤ b ∧ b < hi
  r3 : 1 ≤ n → ∀ b off, a3 = some ⟨b, off, .none⟩ → lo ≤ b ∧ b < hi
section
variable {w w' : World} {lo hi : Nat} {a1 : Option Addr} {n1 : Nat} {z1 : Nat → Int} {a2 : Option Addr} {n2 : Nat} {z2 : Nat → Int} {a3 : Option Addr} {n : Nat} {S : Nat → SV}
theorem S3.keptN (h : S3 w lo hi a1 n1 z1 a2 n2 z2 a3 n S) (hg : w.grownBy w' .none) : S3 w' lo hi a1 n1 z1 a2 n2 z2 a3 n S := ⟨h.i1.kept hg, h.i2.kept hg, h.i3.kept hg, h.r1, h.r2, h.r3⟩
theorem S3.keptQ {l2 h2 : Nat} (h : S3 w lo hi a1 n1 z1 a2 n2 z2 a3 n S) (hg : GR w l2 h2 w') (hd : hi ≤ l2 ∨ h2 ≤ lo) : S3 w' lo hi a1 n1 z1 a2 n2 z2 a3 n S :=
  ⟨by
    by_cases h0 : n1 = 0
    · exact .inl h0
    · exact ints_Q h.i1 hg (fun b off e => by have := h.r1 (by omega) b off e; omega), by
    by_cases h0 : n2 = 0
    · exact .inl h0
    · exact ints_Q h.i2 hg (fun b off e => by have := h.r2 (by omega) b off e; omega), by
    by_cases h0 : n = 0
    · exact .inl h0
    · exact sh_Q h.i3 hg (fun b off e => by have := h.r3 (by omega) b off e; omega), h.r1, h.r2, h.r3⟩
end
/-- A session's slices of a function's own, to be marked. -/
structure O3 (w : World) (lo hi : Nat) (a1 : Option Addr) (n1 c1 : Nat) (z1 : Nat → Int) (a2 : Option Addr) (n2 c2 : Nat) (z2 : Nat → Int) (a3 : Option Addr) (n c3 : Nat) (S : Nat → SV) : Prop where
  o1 : OE w lo a1 n1 c1 z1
  o2 : OE w lo a2 n2 c2 z2
  o3 : OwnSh w lo (.slice a3 n c3) n S
  apt : Apt a1 a2
  s : S3 w lo hi a1 n1 z1 a2 n2 z2 a3 n S
  t1 : ∀ b off, a1 = some ⟨b, off, .none⟩ → lo ≤ b ∧ b < hi
  t2 : ∀ b off, a2 = some ⟨b, off, .none⟩ → lo ≤ b ∧ b < hi
  t3 : ∀ b off, a3 = some ⟨b, off, .none⟩ → lo ≤ b ∧ b < hi
section
variable {w w' : World} {lo hi : Nat} {a1 : Option Addr} {n1 c1 : Nat} {z1 : Nat → Int} {a2 : Option Addr} {n2 c2 : Nat} {z2 : Nat → Int} {a3 : Option Addr} {n c3 : Nat} {S : Nat → SV}
theorem O3.keptN (h : O3 w lo hi a1 n1 c1 z1 a2 n2 c2 z2 a3 n c3 S) (hg : w.grownBy w' .none) : O3 w' lo hi a1 n1 c1 z1 a2 n2 c2 z2 a3 n c3 S :=
  ⟨h.o1.kept hg (fun g e => by cases e), h.o2.kept hg (fun g e => by cases e), h.o3.kept hg (fun g e => by cases e), h.apt, h.s.keptN hg, h.t1, h.t2, h.t3⟩
theorem O3.keptQ {l2 h2 : Nat} (h : O3 w lo hi a1 n1 c1 z1 a2 n2 c2 z2 a3 n c3 S) (hg : GR w l2 h2 w') (hd : h2 ≤ lo) : O3 w' lo hi a1 n1 c1 z1 a2 n2 c2 z2 a3 n c3 S :=
  ⟨own_Q h.o1 hg hd, own_Q h.o2 hg hd, own_Q h.o3 hg hd, h.apt, h.s.keptQ hg (.inr hd), h.t1, h.t2, h.t3⟩
theorem sh_in {v : Value} (h : OwnSh w lo (.slice a3 n c3) n S) : ShIn w a3 n S ∧ ∀ b off, a3 = some ⟨b, off, .none⟩ → lo ≤ b ∧ b < w.heap.size := by
  obtain ⟨a, c, hv, hs, _, _, hr⟩ := h.sh
  injection hv with e1 _ _
  subst e1
  exact ⟨hs, hr⟩
theorem o3_of (h1 : OE w lo a1 n1 c1 z1) (h2 : OE w lo a2 n2 c2 z2) (h3 : OwnSh w lo (.slice a3 n c3) n S) (ha : Apt a1 a2) : O3 w lo w.heap.size a1 n1 c1 z1 a2 n2 c2 z2 a3 n c3 S :=
  ⟨h1, h2, h3, ha, ⟨h1.ints, h2.ints, (sh_in (v := .slice a3 n c3) h3).1, fun _ => h1.lt, fun _ => h2.lt, fun _ => (sh_in (v := .slice a3 n c3) h3).2⟩, h1.lt, h2.lt, (sh_in (v := .slice a3 n c3) h3).2⟩
end
theorem own_disN (v : Value) : v.ownBlock = .none ∨ v.ownBlock ≠ .none := Classical.em _
/-- Numbers of a function's own, marked. -/
theorem markE (w : World) (lo : Nat) (a : Option Addr) (n c : Nat) (z : Nat → Int) (m : Nat) (h : OE w lo a n c z) (hl : n ≤ 2000000) (hm : m ≤ 9000000) :
    Calls Try.prog 51 #[.slice a n c, .int .i64 (m : Int)] w fun e w' => e = .returned (.int .i64 ((m + n : Nat) : Int)) ∧ OE w' lo a n c (fun j => ((m + j : Nat) : Int)) ∧ w.grownBy w' (Value.slice a n c).ownBlock := by
  rcases h.2 with ⟨hv, h0⟩ | ⟨g, c', cur, hv, _⟩
  · injection hv with e1 e2 e3
    subst e1; subst h0; subst e3
    go_enter Try.func51, Try.ntmps51
    go_wp2
    go_loop [1, 5] (fun q i => i = .int .i64 0 ∧ q = .int .i64 (m : Int)) (fun _ i => 0)
    case atStart => exact ⟨rfl, rfl⟩
    case round =>
      obtain ⟨rfl, rfl⟩ := hrel
      go_wp2
      go_ret
      exact ⟨rfl, ⟨rfl, .inl ⟨rfl, rfl⟩⟩, Draw.grown_refl _ _⟩
  · injection hv with e1 e2 e3
    subst e1; subst e3
    have hI : OI w lo g n c z := h
    refine (mark_row w lo g n c z m hI.row hl hm).mono ?_
    rintro e w' ⟨rfl, hg, hr⟩
    exact ⟨rfl, hr.owns, hg⟩
theorem markShE (w : World) (lo : Nat) (a : Option Addr) (n c : Nat) (S : Nat → SV) (m : Nat) (h : OwnSh w lo (.slice a n c) n S) (hl : n ≤ 2000000) (hm : m ≤ 6000000) :
    Calls Try.prog 86 #[.slice a n c, .int .i64 (m : Int)] w fun e w' => e = .returned (.int .i64 ((m + 4 * n : Nat) : Int)) ∧ ShIn w' a n (mkS m) ∧ w.grownBy w' (Value.slice a n c).ownBlock := by
  rcases h.2 with ⟨hv, h0⟩ | ⟨g, c', cur, hv, _⟩
  · injection hv with e1 e2 e3
    subst e1; subst h0; subst e3
    go_enter Try.func86, Try.ntmps86
    go_wp2
    go_loop [1, 5] (fun q i => i = .int .i64 0 ∧ q = .int .i64 (m : Int)) (fun _ i => 0)
    case atStart => exact ⟨rfl, rfl⟩
    case round =>
      obtain ⟨rfl, rfl⟩ := hrel
      go_wp2
      go_ret
      exact ⟨rfl, .inl rfl, Draw.grown_refl _ _⟩
  · injection hv with e1 e2 e3
    subst e1; subst e3
    obtain ⟨hN, gg, hr⟩ := h.row4
    refine (markshnsN w lo g n c gg m hr hN hl hm).mono ?_
    rintro e w' ⟨rfl, hr, hg⟩
    exact ⟨rfl, sh_marked hr hN, hg⟩
theorem own_blk {lo n c : Nat} {w : World} {a : Option Addr} {T : TypeId} {s : Nat} {xs : List Value} (h : w.ownsRow lo T s (.slice a n c) n xs) : ∀ g, (Value.slice a n c).ownBlock = some g → lo ≤ g ∧ a = some ⟨g, 0, .none⟩ := by
  intro g hg
  rcases h.2 with ⟨hv, h0⟩ | ⟨g', c', cur, hv, hlo, _⟩
  · injection hv with e1 e2 e3; subst e1; simp [Value.ownBlock] at hg
  · injection hv with e1 e2 e3; subst e1
    simp [Value.ownBlock] at hg
    subst hg
    exact ⟨hlo, rfl⟩
set_option maxHeartbeats 2000000 in
/-- A key of a function's own, marked. -/
theorem markkeyE (w : World) (need many : Int) (lo : Nat) (a1 a2 : Option Addr) (n1 n2 c1 c2 : Nat) (z1 z2 : Nat → Int) (m : Nat) (h1 : OE w lo a1 n1 c1 z1) (h2 : OE w lo a2 n2 c2 z2) (hap : Apt a1 a2) (hl1 : n1 ≤ 2000000) (hl2 : n2 ≤ 2000000) (hm : m ≤ 1000000) :
    Calls Try.prog 50 #[.agg #[.int .i64 need, .int .i64 many, .slice a1 n1 c1, .slice a2 n2 c2], .int .i64 (m : Int)] w fun e w' => e = .returned (.int .i64 ((m + n1 + n2 : Nat) : Int)) ∧ OE w' lo a1 n1 c1 (fun j => ((m + j : Nat) : Int)) ∧ OE w' lo a2 n2 c2 (fun j => ((m + n1 + j : Nat) : Int)) ∧ ∃ wa wm, w.grownBy wa .none ∧ wa.grownBy wm (Value.slice a1 n1 c1).ownBlock ∧ wm.grownBy w' (Value.slice a2 n2 c2).ownBlock := by
  have G0 := Lib.hid (Draw.grown_alloc w (.cells #[.int .i64 need, .int .i64 many, .slice a1 n1 c1, .slice a2 n2 c2] 63) none)
  have D := Lib.hid (Blk.new w #[.int .i64 need, .int .i64 many, .slice a1 n1 c1, .slice a2 n2 c2] 63)
  have B1 := Lib.hid (own_blk h1); have B2 := Lib.hid (own_blk h2)
  have L1 := Lib.hid (fun g (hg : (Value.slice a1 n1 c1).ownBlock = some g) => (World.ownsRow.lt h1 g hg).2)
  have L2 := Lib.hid (fun g (hg : (Value.slice a2 n2 c2).ownBlock = some g) => (World.ownsRow.lt h2 g hg).2)
  have H1 := Lib.hid (h1.kept G0.out (fun g e => by cases e)); have H2 := Lib.hid (h2.kept G0.out (fun g e => by cases e))
  have HA := Lib.hid hap
  clear h1 h2 hap
  go_enter Try.func50, Try.ntmps50
  go_wp2_with fail
  refine (markE _ lo a1 n1 c1 z1 m H1.out (by omega) (by omega)).mono ?_
  rintro e w1 ⟨rfl, hr, hg⟩
  have R1 := Lib.hid hr; have G1 := Lib.hid hg
  have D1 := Lib.hid (D.out.kept hg (fun e => by have := L1.out w.heap.size e.symm; omega))
  have H2' := Lib.hid (show OE w1 lo a2 n2 c2 z2 from World.ownsRow.kept H2.out hg (by
    cases hv : (Value.slice a2 n2 c2).ownBlock with
    | none => exact .inl rfl
    | some b => exact .inr fun e => HA.out _ _ _ _ (B1.out b e.symm).2 (B2.out b hv).2 rfl))
  clear hr hg
  obtain ⟨_, k0, k1, k2, k3⟩ := blk_key D1.out
  go_wp2_with fail
  refine (markE _ lo a2 n2 c2 z2 (m + n1) H2'.out (by omega) (by omega)).mono ?_
  rintro e w2 ⟨rfl, hr, hg⟩
  have R2 := Lib.hid hr; have G2 := Lib.hid hg
  have R1' := Lib.hid (show OE w2 lo a1 n1 c1 (fun j => ((m + j : Nat) : Int)) from World.ownsRow.kept R1.out hg (by
    cases hv : (Value.slice a1 n1 c1).ownBlock with
    | none => exact .inl rfl
    | some b => exact .inr fun e => HA.out _ _ _ _ (B1.out b hv).2 (B2.out b e.symm).2 rfl))
  clear hr hg k0 k1 k2 k3
  go_wp2
  go_ret
  exact ⟨rfl, R1'.out, R2.out, _, w1, G0.out, G1.out, G2.out⟩
set_option maxHeartbeats 2000000 in
/-- A session of a function's own, marked. -/
theorem marksesE (w : World) (need many : Int) (lo hi : Nat) (a1 a2 a3 : Option Addr) (n1 n2 n c1 c2 c3 : Nat) (z1 z2 : Nat → Int) (S : Nat → SV) (msg : Int) (m : Nat) (h : O3 w lo hi a1 n1 c1 z1 a2 n2 c2 z2 a3 n c3 S) (hl1 : n1 ≤ 2000000) (hl2 : n2 ≤ 2000000) (hl : n ≤ 2000000) (hm : m ≤ 1000000) :
    Calls Try.prog 52 #[.agg #[.int .i64 need, .int .i64 many, .slice a1 n1 c1, .slice a2 n2 c2, .int .i64 msg, .slice a3 n c3], .int .i64 (m : Int)] w fun e w' => e = .returned (.int .i64 ((m + n1 + n2 + 4 * n : Nat) : Int)) ∧ S3 w' lo hi a1 n1 (fun j => ((m + j : Nat) : Int)) a2 n2 (fun j => ((m + n1 + j : Nat) : Int)) a3 n (mkS (m + n1 + n2)) ∧ GR w lo hi w' := by
  obtain ⟨h1, h2, h3, hap, hs, ht1, ht2, ht3⟩ := h
  have G0 := Lib.hid (Draw.grown_alloc w (.cells #[.int .i64 need, .int .i64 many, .slice a1 n1 c1, .slice a2 n2 c2, .int .i64 msg, .slice a3 n c3] 66) none)
  have K := Lib.hid (Ss.of_blk (Blk.new w #[.int .i64 need, .int .i64 many, .slice a1 n1 c1, .slice a2 n2 c2, .int .i64 msg, .slice a3 n c3] 66))
  have D := Lib.hid (Blk.new w #[.int .i64 need, .int .i64 many, .slice a1 n1 c1, .slice a2 n2 c2, .int .i64 msg, .slice a3 n c3] 66)
  have B1 := Lib.hid (own_blk h1); have B2 := Lib.hid (own_blk h2); have B3 := Lib.hid (own_blk h3)
  have L1 := Lib.hid (fun g (hg : (Value.slice a1 n1 c1).ownBlock = some g) => (World.ownsRow.lt h1 g hg).2)
  have L2 := Lib.hid (fun g (hg : (Value.slice a2 n2 c2).ownBlock = some g) => (World.ownsRow.lt h2 g hg).2)
  have H1 := Lib.hid (h1.kept G0.out (fun g e => by cases e)); have H2 := Lib.hid (h2.kept G0.out (fun g e => by cases e)); have H3 := Lib.hid (h3.kept G0.out (fun g e => by cases e))
  have HA := Lib.hid hap; have HS := Lib.hid hs; have HT1 := Lib.hid ht1; have HT2 := Lib.hid ht2; have HT3 := Lib.hid ht3
  clear h1 h2 h3 hap hs ht1 ht2 ht3
  go_enter Try.func52, Try.ntmps52
  obtain ⟨_, k0, k1, k2, k3, k4, k5⟩ := K.out
  go_wp2_with fail
  refine (markkeyE _ need many lo a1 a2 n1 n2 c1 c2 z1 z2 m H1.out H2.out HA.out hl1 hl2 hm).mono ?_
  rintro e w2 ⟨rfl, hr1, hr2, wa, wm, hg0, hg1, hg2⟩
  have R1 := Lib.hid hr1; have R2 := Lib.hid hr2; have HG := Lib.hid (And.intro hg0 (And.intro hg1 hg2))
  have D1 := Lib.hid (Ss.of_blk (((D.out.keptN hg0).kept hg1 (fun e => by have := L1.out w.heap.size e.symm; omega)).kept hg2 (fun e => by have := L2.out w.heap.size e.symm; omega)))
  have H3' := Lib.hid (show OwnSh w2 lo (.slice a3 n c3) n S from World.ownsRow.kept (World.ownsRow.kept (World.ownsRow.kept H3.out hg0 (own_disN _)) hg1 (by
    cases hv : (Value.slice a3 n c3).ownBlock with
    | none => exact .inl rfl
    | some b => exact .inr fun e => absurd e.symm (by
        intro e
        have e1 := (B1.out b e).2; have e3 := (B3.out b hv).2
        have x1 := World.ownsRow.kept H1.out hg0 (own_disN _); have x3 := World.ownsRow.kept H3.out hg0 (own_disN _)
        rw [e1] at x1; rw [e3] at x3
        exact own_ne_own x1 x3 (by decide) rfl))) hg2 (by
    cases hv : (Value.slice a3 n c3).ownBlock with
    | none => exact .inl rfl
    | some b => exact .inr fun e => absurd e.symm (by
        intro e
        have e2 := (B2.out b e).2; have e3 := (B3.out b hv).2
        have x2 := World.ownsRow.kept H2.out hg0 (own_disN _); have x3 := World.ownsRow.kept H3.out hg0 (own_disN _)
        rw [e2] at x2; rw [e3] at x3
        exact own_ne_own x2 x3 (by decide) rfl)))
  clear hr1 hr2 hg0 hg1 hg2 k0 k1 k2 k3 k4 k5
  obtain ⟨_, k0, k1, k2, k3, k4, k5⟩ := D1.out
  go_wp2_with fail
  refine (markShE _ lo a3 n c3 S (m + n1 + n2) H3'.out hl (by omega)).mono ?_
  rintro e w3 ⟨rfl, hr3, hg3⟩
  have hN : ∀ {aa : Option Addr} {nn cc : Nat} {zz : Nat → Int}, OE w2 lo aa nn cc zz → (Value.slice aa nn cc).ownBlock = .none ∨ (Value.slice aa nn cc).ownBlock ≠ (Value.slice a3 n c3).ownBlock := by
    intro aa nn cc zz hO
    cases hv : (Value.slice aa nn cc).ownBlock with
    | none => exact .inl rfl
    | some b =>
      refine .inr fun e => ?_
      have e1 := (own_blk hO b hv).2; have e3 := (B3.out b e.symm).2
      have x1 := hO; have x3 := H3'.out
      unfold OE at x1; unfold OwnSh at x3
      rw [e1] at x1; rw [e3] at x3
      exact own_ne_own x1 x3 (by decide) rfl
  have Q1 := Lib.hid (show OE w3 lo a1 n1 c1 _ from World.ownsRow.kept R1.out hg3 (hN R1.out))
  have Q2 := Lib.hid (show OE w3 lo a2 n2 c2 _ from World.ownsRow.kept R2.out hg3 (hN R2.out))
  have hG : GR w lo hi w3 := ((((GR.refl w lo hi).none G0.out).none HG.out.1).step HG.out.2.1 (fun g e => .inl ⟨(B1.out g e).1, (HT1.out g 0 (B1.out g e).2).2⟩)).step HG.out.2.2 (fun g e => .inl ⟨(B2.out g e).1, (HT2.out g 0 (B2.out g e).2).2⟩) |>.step hg3 (fun g e => .inl ⟨(B3.out g e).1, (HT3.out g 0 (B3.out g e).2).2⟩)
  have R3 := Lib.hid hr3; have HGR := Lib.hid hG
  clear hr3 hg3 hN hG k0 k1 k2 k3 k4 k5
  go_wp2
  go_ret
  exact ⟨rfl, ⟨Q1.out.ints, Q2.out.ints, R3.out, HS.out.r1, HS.out.r2, HS.out.r3⟩, HGR.out⟩
/-! What SessionPut and SessionNew answer, in one form. -/
def SesU (w : World) (need many : Int) (ng : Nat) (zg : Nat → Int) (nc : Nat) (zc : Nat → Int) (msg : Int) (n : Nat) (S : Nat → SV) (ok : Bool) (e : Ending) (w' : World) : Prop :=
  ∃ a1 c1 a2 c2 a3 c3, e = .returned (.tuple #[.agg #[.int .i64 need, .int .i64 many, .slice a1 ng c1, .slice a2 nc c2, .int .i64 msg, .slice a3 n c3], .bool ok]) ∧ O3 w' w.heap.size w'.heap.size a1 ng c1 zg a2 nc c2 zc a3 n c3 S ∧ w.grownBy w' .none
theorem own_none (w : World) (lo : Nat) (T : TypeId) (s : Nat) : w.ownsRow lo T s (.slice .none 0 0) 0 [] := ⟨by simp, .inl ⟨rfl, rfl⟩⟩
theorem sesU_q {w : World} {need many : Int} {ng : Nat} {zg : Nat → Int} {nc : Nat} {zc : Nat → Int} {msg : Int} {n : Nat} {S : Nat → SV} {ok : Bool} {e : Ending} {w' : World} (h : SesQ w need many ng zg nc zc msg n S ok e w') : SesU w need many ng zg nc zc msg n S ok e w' := by
  obtain ⟨a1, c1, a2, c2, a3, c3, he, h1, h2, h3, ha, hg⟩ := h
  exact ⟨a1, c1, a2, c2, a3, c3, he, o3_of h1 h2 h3 ha, hg⟩
theorem sesU_z {w : World} {zg zc : Nat → Int} {S : Nat → SV} {e : Ending} {w' : World} (h : SesZ w e w') : SesU w 0 0 0 zg 0 zc 0 0 S false e w' := by
  obtain ⟨he, hg⟩ := h
  exact ⟨.none, 0, .none, 0, .none, 0, he, o3_of (own_none w' w.heap.size _ 1) (own_none w' w.heap.size _ 1) (own_none w' w.heap.size _ 4) (fun b off b' off' e => by cases e), hg⟩
/-- .. as the model answers it: two rows may be one. -/
def SesV (w : World) (need many : Int) (ng : Nat) (zg : Nat → Int) (nc : Nat) (zc : Nat → Int) (msg : Int) (n : Nat) (S : Nat → SV) (ok : Bool) (e : Ending) (w' : World) : Prop :=
  ∃ a1 c1 a2 c2 a3 c3, e = .returned (.tuple #[.agg #[.int .i64 need, .int .i64 many, .slice a1 ng c1, .slice a2 nc c2, .int .i64 msg, .slice a3 n c3], .bool ok]) ∧ S3 w' w.heap.size w'.heap.size a1 ng zg a2 nc zc a3 n S ∧ w.grownBy w' .none
theorem sesV_c {w : World} {need many : Int} {ng : Nat} {zg : Nat → Int} {nc : Nat} {zc : Nat → Int} {msg : Int} {n : Nat} {S : Nat → SV} {ok : Bool} {e : Ending} {w' : World} (h : SesC w need many ng zg nc zc msg n S ok e w') : SesV w need many ng zg nc zc msg n S ok e w' := by
  obtain ⟨b1, c1, b2, c2, a3, c3, he, h1, h2, h3, hg⟩ := h
  exact ⟨_, c1, _, c2, a3, c3, he, ⟨h1.ints, h2.ints, (sh_in (v := .slice a3 n c3) h3).1, fun _ b off e => by injection e with e; injection e with e _; have := h1.lt; omega, fun _ b off e => by injection e with e; injection e with e _; have := h2.lt; omega, fun _ => (sh_in (v := .slice a3 n c3) h3).2⟩, hg⟩
theorem sesV_z {w : World} {zg zc : Nat → Int} {S : Nat → SV} {e : Ending} {w' : World} (h : SesZ w e w') : SesV w 0 0 0 zg 0 zc 0 0 S false e w' := by
  obtain ⟨a1, c1, a2, c2, a3, c3, he, h3, hg⟩ := sesU_z (zg := zg) (zc := zc) (S := S) h
  exact ⟨a1, c1, a2, c2, a3, c3, he, h3.s, hg⟩
theorem O3.lower {w : World} {lo lo' hi : Nat} {a1 : Option Addr} {n1 c1 : Nat} {z1 : Nat → Int} {a2 : Option Addr} {n2 c2 : Nat} {z2 : Nat → Int} {a3 : Option Addr} {n c3 : Nat} {S : Nat → SV} (h : O3 w lo hi a1 n1 c1 z1 a2 n2 c2 z2 a3 n c3 S) (hl : lo' ≤ lo) : O3 w lo' hi a1 n1 c1 z1 a2 n2 c2 z2 a3 n c3 S :=
  ⟨h.o1.lower hl, h.o2.lower hl, h.o3.lower hl, h.apt, ⟨h.s.i1, h.s.i2, h.s.i3, fun k b off e => ⟨Nat.le_trans hl (h.s.r1 k b off e).1, (h.s.r1 k b off e).2⟩, fun k b off e => ⟨Nat.le_trans hl (h.s.r2 k b off e).1, (h.s.r2 k b off e).2⟩, fun k b off e => ⟨Nat.le_trans hl (h.s.r3 k b off e).1, (h.s.r3 k b off e).2⟩⟩,
    fun b off e => ⟨Nat.le_trans hl (h.t1 b off e).1, (h.t1 b off e).2⟩, fun b off e => ⟨Nat.le_trans hl (h.t2 b off e).1, (h.t2 b off e).2⟩, fun b off e => ⟨Nat.le_trans hl (h.t3 b off e).1, (h.t3 b off e).2⟩⟩
theorem ints_low {w : World} {a : Option Addr} {n : Nat} {z : Nat → Int} (h : Ints w a n z) (hn : 1 ≤ n) : ∀ b off, a = some ⟨b, off, .none⟩ → 0 ≤ b ∧ b < w.heap.size := by
  intro b off e
  obtain ⟨b', off', e', hb, _⟩ := h.ptr hn
  rw [e] at e'; injection e' with e'; injection e' with e' _; subst e'
  exact ⟨Nat.zero_le _, hb⟩
theorem sh_low {w : World} {a : Option Addr} {n : Nat} {S : Nat → SV} (h : ShIn w a n S) (hn : 1 ≤ n) : ∀ b off, a = some ⟨b, off, .none⟩ → 0 ≤ b ∧ b < w.heap.size := by
  intro b off e
  obtain ⟨b', off', e', hb, _⟩ := h.ptr hn
  rw [e] at e'; injection e' with e'; injection e' with e' _; subst e'
  exact ⟨Nat.zero_le _, hb⟩
theorem s3_args {w : World} {a1 : Option Addr} {n1 : Nat} {z1 : Nat → Int} {a2 : Option Addr} {n2 : Nat} {z2 : Nat → Int} {a3 : Option Addr} {n : Nat} {S : Nat → SV} (h1 : Ints w a1 n1 z1) (h2 : Ints w a2 n2 z2) (h3 : ShIn w a3 n S) : S3 w 0 w.heap.size a1 n1 z1 a2 n2 z2 a3 n S :=
  ⟨h1, h2, h3, ints_low h1, ints_low h2, sh_low h3⟩
/-- A session copied for a law. -/
theorem tosesO (w : World) (need many : Int) (ag : Option Addr) (ng cg : Nat) (zg : Nat → Int) (ac : Option Addr) (nc cc : Nat) (zc : Nat → Int) (msg : Int) (a : Option Addr) (len cap : Nat) (S : Nat → SV) (hG : Ints w ag ng zg) (hC : Ints w ac nc zc) (hS : ShIn w a len S) (hl1 : ng ≤ 2000000) (hl2 : nc ≤ 2000000) (hl : len ≤ 2000000) (lo : Nat) (hlo : lo ≤ w.heap.size) :
    Calls Try.prog 56 #[.agg #[.int .i64 need, .int .i64 many, .slice ag ng cg, .slice ac nc cc, .int .i64 msg, .slice a len cap]] w fun e w' => ∃ b1 b2 b3 : Nat, e = .returned (.agg #[.int .i64 need, .int .i64 many, .slice (some ⟨b1, 0, .none⟩) ng ng, .slice (some ⟨b2, 0, .none⟩) nc nc, .int .i64 msg, .slice (some ⟨b3, 0, .none⟩) len len]) ∧ O3 w' lo w'.heap.size (some ⟨b1, 0, .none⟩) ng ng zg (some ⟨b2, 0, .none⟩) nc nc zc (some ⟨b3, 0, .none⟩) len len S ∧ w.grownBy w' .none := by
  refine (toses w need many ag ng cg zg ac nc cc zc msg a len cap S hG hC hS hl1 hl2 hl).mono ?_
  rintro e w' ⟨b1, b2, b3, rfl, h12, h23, r1, r2, r3, hg⟩
  refine ⟨b1, b2, b3, rfl, (o3_of (c3 := len) r1.owns r2.owns (r3.own (by unfold maxLen; omega)) (fun b off b' off' e e' => ?_)).lower hlo, hg⟩
  injection e with e; injection e with e _
  injection e' with e'; injection e' with e' _
  omega
/-- What SessionPut answers, both ways: the same numbers. -/
theorem put_two (need many : Int) (ng : Nat) (zg : Nat → Int) (nc : Nat) (zc : Nat → Int) (msg : Int) (n : Nat) (S : Nat → SV) (m z : Int) (h1 : ng ≤ 2000000) (h2 : nc ≤ 2000000) (h3 : n ≤ 2000000) :
    ∃ (qn qm : Int) (qg : Nat) (qzg : Nat → Int) (qc : Nat) (qzc : Nat → Int) (qs : Int) (qk : Nat) (qS : Nat → SV) (qo : Bool), qg ≤ 2000000 ∧ qc ≤ 2000000 ∧ qk ≤ 2000000 ∧
      (∀ w e w', SesP w need many ng zg nc zc msg n S m z e w' → SesV w qn qm qg qzg qc qzc qs qk qS qo e w') ∧ (∀ w e w', SesPQ w need many ng zg nc zc msg n S m z e w' → SesU w qn qm qg qzg qc qzc qs qk qS qo e w') := by
  by_cases hc : tsF need many ng zg nc zc msg n S = true ∧ fok z = true
  · refine ⟨need, many, ng, zg, nc, zc, msg, n, ptS S m n z, hasz (mS S) m n, h1, h2, h3, fun w e w' h => sesV_c ?_, fun w e w' h => sesU_q ?_⟩
    · unfold SesP at h; rwa [if_pos hc] at h
    · unfold SesPQ at h; rwa [if_pos hc] at h
  · refine ⟨0, 0, 0, zg, 0, zc, 0, 0, S, false, by omega, by omega, by omega, fun w e w' h => sesV_z ?_, fun w e w' h => sesU_z ?_⟩
    · unfold SesP at h; rwa [if_neg hc] at h
    · unfold SesPQ at h; rwa [if_neg hc] at h
end Con
end Go.Proofs.Ythbigmcklacbnaa
