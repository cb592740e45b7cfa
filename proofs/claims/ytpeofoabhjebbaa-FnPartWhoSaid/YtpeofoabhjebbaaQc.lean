/-
  How the model draws a deal with answers, how many are needed, and of how many.
-/
import Derived.Test.YtpeofoabhjebbaaQb
import Derived.Test.YtpeofoabhjebbaaDo
namespace Go.Proofs.Ytpeofoabhjebbaa
namespace Draw
open Go.RowKit Alg Mem Con Mp
set_option linter.unusedVariables false

/-- What holds while a deal lies in a drawing function of its own: all blocks new, and apart; its numbers told. -/
structure HeldZ (w : World) (base B : Nat) (a : Option Addr) (len cap lo hi D0 D1 : Nat) (f : Int) (b1 n c1 : Nat) (z1 : Nat → Int) (b2 m c2 : Nat) (z2 : Nat → Int) (wr : World) : Prop where
  d0 : Blk wr D0 #[.int .i64 0, .slice none 0 0, .slice none 0 0] 129
  d1 : Blk wr D1 #[.int .i64 f, .slice (some ⟨b1, 0, none⟩) n c1, .slice (some ⟨b2, 0, none⟩) m c2] 129
  r1 : Row wr w.heap.size 3 b1 n c1 z1
  r2 : Row wr w.heap.size 3 b2 m c2 z2
  fz : ∀ j, j < m → fok (z2 j) = true
  o0 : w.heap.size ≤ D0
  oB : w.heap.size ≤ B
  o1 : w.heap.size ≤ D1
  up : B < b1 ∧ B < b2 ∧ D0 < B ∧ b1 < D1 ∧ b2 < D1 ∧ b1 ≠ b2
  g : w.grownBy wr none
  rd : ∃ p', lo ≤ p' ∧ p' ≤ hi ∧ Rd wr base B a len cap p'
theorem HeldZ.step {w : World} {base B : Nat} {a : Option Addr} {len cap lo hi D0 D1 : Nat} {f : Int} {b1 n c1 b2 m c2 : Nat} {z1 z2 : Nat → Int} {wr : World} {hi' p' : Nat} {w' : World} (h : HeldZ w base B a len cap lo hi D0 D1 f b1 n c1 z1 b2 m c2 z2 wr)
    (hg : wr.grownBy w' (some B)) (hrd : Rd w' base B a len cap p') (h1 : lo ≤ p') (h2 : p' ≤ hi') : HeldZ w base B a len cap lo hi' D0 D1 f b1 n c1 z1 b2 m c2 z2 w' := by
  obtain ⟨d0, d1, r1, r2, fz, o0, oB, o1, up, g, rd⟩ := h
  exact ⟨d0.kept hg (by intro e; have e := Option.some.inj e; omega), d1.kept hg (by intro e; have e := Option.some.inj e; omega), r1.kept hg (by intro e; have e := Option.some.inj e; omega), r2.kept hg (by intro e; have e := Option.some.inj e; omega), fz, o0, oB, o1, up, grown_new g oB hg, p', h1, h2, hrd⟩
theorem HeldZ.set2 {w : World} {base B : Nat} {a : Option Addr} {len cap lo hi D0 D1 : Nat} {f : Int} {b1 n c1 b2 m c2 : Nat} {z1 z2 : Nat → Int} {wr : World} (h : HeldZ w base B a len cap lo hi D0 D1 f b1 n c1 z1 b2 m c2 z2 wr) (hb : base ≤ w.heap.size) (j : Nat) (u : Int) (hu : fok u = true) :
    HeldZ w base B a len cap lo hi D0 D1 f b1 n c1 z1 b2 m c2 (fun i => if i = j then u else z2 i) (wr.setCell ⟨b2, j, none⟩ (.int .i64 u)) := by
  obtain ⟨d0, d1, r1, r2, fz, o0, oB, o1, up, g, p', q1, q2, hrd⟩ := h
  have hg := grown_set wr b2 j (.int .i64 u)
  have hf2 := r2.from_
  exact ⟨d0.other (by omega), d1.other (by omega), r1.kept hg (by intro e; have e := Option.some.inj e; omega), r2.set j u, fun i hi => by show fok (if i = j then u else z2 i) = true; split; exact hu; exact fz i hi, o0, oB, o1, up, grown_new g hf2 hg, p', q1, q2, hrd.grownN hg (by omega) (by omega)⟩
/-- What a function leaves that draws a deal, answers and two numbers. -/
def GotG (w : World) (e : Ending) (w' : World) : Prop :=
  ∃ (f : Int) (b1 n c1 : Nat) (z1 : Nat → Int) (b2 m c2 : Nat) (z2 : Nat → Int) (aA : Option Addr) (na cA : Nat) (A : Nat → Ans) (need many : Int), e = .returned (.tuple #[.agg #[.int .i64 f, .slice (some ⟨b1, 0, none⟩) n c1, .slice (some ⟨b2, 0, none⟩) m c2], .slice aA na cA, .int .i64 need, .int .i64 many]) ∧ n ≤ 5 ∧ m ≤ 5 ∧ n ≤ c1 ∧ c1 ≤ maxLen ∧ m ≤ c2 ∧ c2 ≤ maxLen ∧
    1 ≤ need ∧ need ≤ 5 ∧ 1 ≤ many ∧ many ≤ 5 ∧ (1 ≤ f ∧ f ≤ many) ∧ Ints w' (some ⟨b1, 0, none⟩) n z1 ∧ Ints w' (some ⟨b2, 0, none⟩) m z2 ∧ AnsIn w' aA na A ∧ WfA na A ∧ na ≤ 3000 ∧ w.grownBy w' none
theorem ret_deal4 {fn : Func} {p u v x : Tmp} (h : fn.results = #[.cell p 129, .tmp u, .tmp v, .tmp x]) (tmps : Array Value) {w : World} {b : Nat} {v0 v1 v2 : Value} {T : TypeId} (hp : tmps.getD p undef = .pointer (some ⟨b, 0, none⟩)) (hb : Blk w b #[v0, v1, v2] T) :
    (results fn tmps).run Try.prog w = .ok (.tuple #[.agg #[v0, v1, v2], tmps.getD u undef, tmps.getD v undef, tmps.getD x undef]) w := by
  have hp' : tmps[p]?.getD undef = .pointer (some ⟨b, 0, none⟩) := by simpa using hp
  simp [results, h, hp', asAddr, run_loadVar_row w b T 129 #[v0, v1, v2] (0, 0) _ hb Try.underlying129 rfl size_deal, Result.andThen]
def oneD (f : Int) (b1 n c1 : Nat) (z1 : Nat → Int) (b2 m c2 : Nat) (z2 : Nat → Int) (_ : Nat) : DV := ⟨f, some ⟨b1, 0, none⟩, n, c1, z1, some ⟨b2, 0, none⟩, m, c2, z2⟩
/-- The deal alone, as a slice, behind the literal's block. -/
theorem HeldZ.one {w : World} {base B : Nat} {a : Option Addr} {len cap lo hi D0 D1 : Nat} {f : Int} {b1 n c1 b2 m c2 : Nat} {z1 z2 : Nat → Int} {wr : World} (h : HeldZ w base B a len cap lo hi D0 D1 f b1 n c1 z1 b2 m c2 z2 wr) {W : World}
    (hW : W = (wr.alloc (.cells #[.int .i64 f, .slice (some ⟨b1, 0, none⟩) n c1, .slice (some ⟨b2, 0, none⟩) m c2] 129)).drew) :
    DIn W (B + 1) W.heap.size (some ⟨wr.heap.size, 0, none⟩) 1 (oneD f b1 n c1 z1 b2 m c2 z2) ∧ wr.grownBy W none := by
  subst hW
  have hsz : ((wr.alloc (.cells #[.int .i64 f, .slice (some ⟨b1, 0, none⟩) n c1, .slice (some ⟨b2, 0, none⟩) m c2] 129)).drew).heap.size = wr.heap.size + 1 := by show (wr.heap.push _).size = _; simp
  have hg : wr.grownBy (wr.alloc (.cells #[.int .i64 f, .slice (some ⟨b1, 0, none⟩) n c1, .slice (some ⟨b2, 0, none⟩) m c2] 129)).drew none := grown_alloc_drew _ _
  have hd : Dl ((wr.alloc (.cells #[.int .i64 f, .slice (some ⟨b1, 0, none⟩) n c1, .slice (some ⟨b2, 0, none⟩) m c2] 129)).drew) wr.heap.size f (.slice (some ⟨b1, 0, none⟩) n c1) (.slice (some ⟨b2, 0, none⟩) m c2) :=
    (Dl.new wr f _ _ 129).kept ⟨rfl, rfl, rfl, Nat.le_refl _, fun _ _ _ => rfl⟩
  have hB := h.rd.choose_spec.2.2.lt
  have l1 := h.r1.lt; have l2 := h.r2.lt; have up := h.up
  refine ⟨⟨.inr ⟨wr.heap.size, 0, rfl, by omega, fun j hj => ?_⟩, fun b off e => ?_, fun j hj => ⟨fun b off e => ?_, fun b off e => ?_⟩⟩, hg⟩
  · obtain rfl : j = 0 := by omega
    exact ⟨⟨hd.c0, hd.c1, hd.c2⟩, (h.r1.keptN hg).ints, (h.r2.keptN hg).ints⟩
  · injection e with e; injection e with e1 e2; omega
  · injection e with e; injection e with e1 e2; omega
  · injection e with e; injection e with e1 e2; omega
theorem got_mk {w X W : World} {base B : Nat} {a : Option Addr} {len cap lo hi D0 D1 : Nat} {f : Int} {b1 n c1 b2 m c2 : Nat} {z1 z2 : Nat → Int} {wr : World} {v : Value} {L : List Ans} {need many : Int} (h : HeldZ w base B a len cap lo hi D0 D1 f b1 n c1 z1 b2 m c2 z2 wr) (hX : wr.grownBy X none) (hg : X.grownBy W (some B)) (ho : OwnA W X.heap.size v L) (hL : L.length ≤ 3000) (hn5 : n ≤ 5) (hm5 : m ≤ 5) (hn : 1 ≤ need ∧ need ≤ 5 ∧ 1 ≤ many ∧ many ≤ 5 ∧ 1 ≤ f ∧ f ≤ many) :
    Blk (stored W D0 (.int .i64 f) (.slice (some ⟨b1, 0, none⟩) n c1) (.slice (some ⟨b2, 0, none⟩) m c2)) D0 #[.int .i64 f, .slice (some ⟨b1, 0, none⟩) n c1, .slice (some ⟨b2, 0, none⟩) m c2] 129 ∧
    GotG w (.returned (.tuple #[.agg #[.int .i64 f, .slice (some ⟨b1, 0, none⟩) n c1, .slice (some ⟨b2, 0, none⟩) m c2], v, .int .i64 need, .int .i64 many])) (stored W D0 (.int .i64 f) (.slice (some ⟨b1, 0, none⟩) n c1) (.slice (some ⟨b2, 0, none⟩) m c2)) := by
  obtain ⟨d0, d1, r1, r2, fz, o0, oB, o1, up, g, p', q1, q2, hrd⟩ := h
  have g0 := grown_set W D0 0 (.int .i64 f)
  have g1 := gtr' g0 (grown_set _ D0 1 (.slice (some ⟨b1, 0, none⟩) n c1))
  have g2 := gtr' g1 (grown_set _ D0 2 (.slice (some ⟨b2, 0, none⟩) m c2))
  have k0 := (d0.keptN hX).kept hg (by intro e; have e := Option.some.inj e; omega)
  have k1 := (r1.keptN hX).kept hg (by intro e; have e := Option.some.inj e; omega)
  have k2 := (r2.keptN hX).kept hg (by intro e; have e := Option.some.inj e; omega)
  have hD0 : D0 < X.heap.size := Nat.lt_of_lt_of_le d0.lt hX.size
  have ho2 : OwnA (stored W D0 (.int .i64 f) (.slice (some ⟨b1, 0, none⟩) n c1) (.slice (some ⟨b2, 0, none⟩) m c2)) X.heap.size v L := ⟨ho.1.kept g2 (own_far ho.1 hD0), ho.2⟩
  obtain ⟨aA, cA, rfl, hA, hW⟩ := ho2.ans
  have f1 := k1.from_; have f2 := k2.from_
  exact ⟨((k0.set 0 _).set 1 _).set 2 _, f, b1, n, c1, z1, b2, m, c2, z2, aA, _, cA, _, need, many, rfl, hn5, hm5, r1.le, r1.most, r2.le, r2.most, hn.1, hn.2.1, hn.2.2.1, hn.2.2.2.1, hn.2.2.2.2, (k1.kept g2 (by intro e; have e := Option.some.inj e; omega)).ints, (k2.kept g2 (by intro e; have e := Option.some.inj e; omega)).ints, hA, hW, hL, grown_new (grown_new (gtr g hX) oB hg) o0 g2⟩
end Draw
end Go.Proofs.Ytpeofoabhjebbaa
