/-
  Policies: what the laws draw.
-/
import Derived.Test.YthbigmcklacbnaaYf
namespace Go.Proofs.Ythbigmcklacbnaa
namespace Po
open Go.RowKit Alg Mem Con Draw
set_option linter.unusedVariables false

theorem results_four {fn : Func} {t u v s : Tmp} (h : fn.results = #[.tmp t, .tmp u, .tmp v, .tmp s]) (tmps : Array Value) (P : Program) (w : World) :
    (results fn tmps).run P w = .ok (.tuple #[tmps.getD t undef, tmps.getD u undef, tmps.getD v undef, tmps.getD s undef]) w := by
  simp [results, h]
def GotRo (w : World) (e : Ending) (w' : World) : Prop :=
  ∃ (b n c : Nat) (R : Nat → ByteArray) (who : Int), e = .returned (.tuple #[.slice (some ⟨b, 0, none⟩) n c, .int .i64 who]) ∧ n ≤ 7 ∧ OS w' w.heap.size b n c R ∧ w.grownBy w' none
def GotRk (w : World) (e : Ending) (w' : World) : Prop :=
  ∃ (b n c : Nat) (R : Nat → ByteArray) (b2 m c2 : Nat) (U : Nat → RV), e = .returned (.tuple #[.slice (some ⟨b, 0, none⟩) n c, .slice (some ⟨b2, 0, none⟩) m c2]) ∧ n ≤ 7 ∧ m ≤ 6 ∧ OS w' w.heap.size b n c R ∧ OU w' w.heap.size b2 m c2 U ∧ w.grownBy w' none
def GotRm (w : World) (e : Ending) (w' : World) : Prop :=
  ∃ (b n c : Nat) (R : Nat → ByteArray) (b3 q c3 : Nat) (z : Nat → Int) (role : ByteArray), e = .returned (.tuple #[.slice (some ⟨b, 0, none⟩) n c, .slice (some ⟨b3, 0, none⟩) q c3, .string role]) ∧ n ≤ 7 ∧ q ≤ 5 ∧ OS w' w.heap.size b n c R ∧ OZ w' w.heap.size b3 q c3 z ∧ w.grownBy w' none
def GotRs (w : World) (e : Ending) (w' : World) : Prop :=
  ∃ (b n c : Nat) (R : Nat → ByteArray) (b2 m c2 : Nat) (U : Nat → RV) (b3 q c3 : Nat) (z : Nat → Int), e = .returned (.tuple #[.slice (some ⟨b, 0, none⟩) n c, .slice (some ⟨b2, 0, none⟩) m c2, .slice (some ⟨b3, 0, none⟩) q c3]) ∧ n ≤ 7 ∧ m ≤ 5 ∧ q ≤ 5 ∧ OS w' w.heap.size b n c R ∧ OU w' w.heap.size b2 m c2 U ∧ OZ w' w.heap.size b3 q c3 z ∧ w.grownBy w' none
def GotRy (w : World) (e : Ending) (w' : World) : Prop :=
  ∃ (b n c : Nat) (R : Nat → ByteArray) (b2 m c2 : Nat) (U : Nat → RV) (b3 q c3 : Nat) (z : Nat → Int) (amount : Int), e = .returned (.tuple #[.slice (some ⟨b, 0, none⟩) n c, .slice (some ⟨b2, 0, none⟩) m c2, .slice (some ⟨b3, 0, none⟩) q c3, .int .i64 amount]) ∧ n ≤ 7 ∧ m ≤ 5 ∧ q ≤ 5 ∧ OS w' w.heap.size b n c R ∧ OU w' w.heap.size b2 m c2 U ∧ OZ w' w.heap.size b3 q c3 z ∧ w.grownBy w' none
set_option maxHeartbeats 1000000 in
theorem drawPoR (w : World) (a : Option Addr) (len cap : Nat) (hB : Bytes w w.heap.size a len) (hc : len ≤ cap) (hm : cap ≤ maxLen) :
    Calls Try.prog 20 #[.slice a len cap] w (GotRo w) := by
  go_enter Try.func20, Try.ntmps20
  go_wp2_with fail
  refine (open_any _ w.heap.size a len cap hB (Nat.le_refl _) hc hm).mono ?_
  rintro e w1 ⟨rfl, hg, hs1, l1, c1', hr1⟩
  have H := Lib.hid hr1; have G1 := Lib.hid hg
  have hw1 := hg.size
  clear hr1 hs1 hg hB
  go_wp2_with fail
  refine (policy_any _ _ _ a l1 c1' _ H.out (by omega)).mono ?_
  rintro e w2 ⟨b, n, c, R, b2, m, c2, U, p', rfl, hn, hm, ho, hp, hg, hr, hpp⟩
  have H2 := Lib.hid hr; have G2 := Lib.hid (grown_new G1.out (Nat.le_refl _) hg); have O2 := Lib.hid (ho.lower hw1); have P2 := Lib.hid (hp.lower hw1)
  have HS := Lib.hid ho.lt; have HT := Lib.hid hp.lt
  have hB1 : w.heap.size < w1.heap.size := H.out.lt
  have hlo := ho.lt; have hlp := hp.lt
  clear ho hp hg hr H G1 HS HT
  go_wp2_with fail
  refine (pick_any _ _ _ a l1 c1' _ 9 H2.out (by omega) (by omega)).mono ?_
  rintro e w3 ⟨x, x0, x1, rfl, hr, hg, hs⟩
  have G3 := Lib.hid (grown_new G2.out (Nat.le_refl _) hg); have O3 := Lib.hid (O2.out.kept hg (by intro e; have := Option.some.inj e; omega))
  clear hr hg hs H2 G2 O2 P2
  go_wp2
  go_ret2
  exact ⟨b, n, c, R, x - 1, rfl, hn, O3.out, G3.out⟩
set_option maxHeartbeats 1000000 in
theorem drawPoM (w : World) (a : Option Addr) (len cap : Nat) (hB : Bytes w w.heap.size a len) (hc : len ≤ cap) (hm : cap ≤ maxLen) :
    Calls Try.prog 24 #[.slice a len cap] w (GotRm w) := by
  go_enter Try.func24, Try.ntmps24
  go_wp2_with fail
  refine (open_any _ w.heap.size a len cap hB (Nat.le_refl _) hc hm).mono ?_
  rintro e w1 ⟨rfl, hg, hs1, l1, c1', hr1⟩
  have H := Lib.hid hr1; have G1 := Lib.hid hg
  have hw1 := hg.size
  clear hr1 hs1 hg hB
  go_wp2_with fail
  refine (policy_any _ _ _ a l1 c1' _ H.out (by omega)).mono ?_
  rintro e w2 ⟨b, n, c, R, b2, m, c2, U, p', rfl, hn, hm, ho, hp, hg, hr, hpp⟩
  have H2 := Lib.hid hr; have G2 := Lib.hid (grown_new G1.out (Nat.le_refl _) hg); have O2 := Lib.hid (ho.lower hw1); have P2 := Lib.hid (hp.lower hw1)
  have HS := Lib.hid ho.lt; have HT := Lib.hid hp.lt
  have hB1 : w.heap.size < w1.heap.size := H.out.lt
  have hlo := ho.lt; have hlp := hp.lt
  clear ho hp hg hr H G1 HS HT
  go_wp2_with fail
  refine (who_any _ _ _ a l1 c1' _ H2.out (by omega)).mono ?_
  rintro e w3 ⟨b3, q, c3, p3, z, rfl, hq, hz, hg, hr, hp3⟩
  have hw2 := G2.out.size
  have hG := grown_new G2.out (Nat.le_refl _) hg; have hO := O2.out.kept hg (by intro e; have := Option.some.inj e; omega); have hZ := hz.lower hw2
  have hlz := hz.lt
  have hgA := Draw.grown_alloc w3 (.cells #[.string ⟨#[97]⟩, .string ⟨#[98]⟩, .string ⟨#[99]⟩, .string ⟨#[100]⟩] 9) none
  have OA := Lib.hid (hO.keptN hgA); have ZA := Lib.hid (hZ.keptN hgA); have GA := Lib.hid (gtr hG hgA); have HA := Lib.hid (rdN hr hgA)
  have TA := Lib.hid (txt4 (Blk.new w3 #[.string ⟨#[97]⟩, .string ⟨#[98]⟩, .string ⟨#[99]⟩, .string ⟨#[100]⟩] 9))
  have hsw := hG.size
  have hB3 : w.heap.size < w3.heap.size := hr.lt
  have hB2 : w.heap.size < w2.heap.size := H2.out.lt
  clear hG hO hZ hz hg hr hgA H2 G2 O2 P2
  go_wp2_with fail
  refine (ofp_any _ _ _ a l1 c1' _ HA.out (by omega) w3.heap.size 4 TA.out (by omega) (by omega) (by omega)).mono ?_
  rintro e w4 ⟨role, rfl, hg, hr⟩
  have G4 := Lib.hid (grown_new GA.out (Nat.le_refl _) hg); have O4 := Lib.hid (OA.out.kept hg (by intro e; have := Option.some.inj e; omega)); have Z4 := Lib.hid (ZA.out.kept hg (by intro e; have := Option.some.inj e; omega))
  clear hr hg HA GA OA ZA TA
  go_wp2
  (try simp only [Exit.inBlock, Exit.then])
  refine bodyPost_ret (results_tmp3 rfl _ _ _) rfl ?_
  exact ⟨b, n, c, R, b3, q, c3, z, role, rfl, hn, hq, O4.out, Z4.out, G4.out⟩
set_option maxHeartbeats 1000000 in
theorem drawPoS (w : World) (a : Option Addr) (len cap : Nat) (hB : Bytes w w.heap.size a len) (hc : len ≤ cap) (hm : cap ≤ maxLen) :
    Calls Try.prog 31 #[.slice a len cap] w (GotRs w) := by
  go_enter Try.func31, Try.ntmps31
  go_wp2_with fail
  refine (open_any _ w.heap.size a len cap hB (Nat.le_refl _) hc hm).mono ?_
  rintro e w1 ⟨rfl, hg, hs1, l1, c1', hr1⟩
  have H := Lib.hid hr1; have G1 := Lib.hid hg
  have hw1 := hg.size
  clear hr1 hs1 hg hB
  go_wp2_with fail
  refine (policy_any _ _ _ a l1 c1' _ H.out (by omega)).mono ?_
  rintro e w2 ⟨b, n, c, R, b2, m, c2, U, p', rfl, hn, hm, ho, hp, hg, hr, hpp⟩
  have H2 := Lib.hid hr; have G2 := Lib.hid (grown_new G1.out (Nat.le_refl _) hg); have O2 := Lib.hid (ho.lower hw1); have P2 := Lib.hid (hp.lower hw1)
  have HS := Lib.hid ho.lt; have HT := Lib.hid hp.lt
  have hB1 : w.heap.size < w1.heap.size := H.out.lt
  have hlo := ho.lt; have hlp := hp.lt
  clear ho hp hg hr H G1 HS HT
  go_wp2_with fail
  refine (who_any _ _ _ a l1 c1' _ H2.out (by omega)).mono ?_
  rintro e w3 ⟨b3, q, c3, p3, z, rfl, hq, hz, hg, hr, hp3⟩
  have hw2 := G2.out.size
  have G3 := Lib.hid (grown_new G2.out (Nat.le_refl _) hg); have O3 := Lib.hid (O2.out.kept hg (by intro e; have := Option.some.inj e; omega)); have P3 := Lib.hid (P2.out.kept hg (by intro e; have := Option.some.inj e; omega)); have Z3 := Lib.hid (hz.lower hw2)
  clear hz hg hr H2 G2 O2 P2
  go_wp2
  (try simp only [Exit.inBlock, Exit.then])
  refine bodyPost_ret (results_tmp3 rfl _ _ _) rfl ?_
  exact ⟨b, n, c, R, b2, m, c2, U, b3, q, c3, z, rfl, hn, hm, hq, O3.out, P3.out, Z3.out, G3.out⟩
set_option maxHeartbeats 1000000 in
theorem drawPoY (w : World) (a : Option Addr) (len cap : Nat) (hB : Bytes w w.heap.size a len) (hc : len ≤ cap) (hm : cap ≤ maxLen) :
    Calls Try.prog 28 #[.slice a len cap] w (GotRy w) := by
  go_enter Try.func28, Try.ntmps28
  go_wp2_with fail
  refine (open_any _ w.heap.size a len cap hB (Nat.le_refl _) hc hm).mono ?_
  rintro e w1 ⟨rfl, hg, hs1, l1, c1', hr1⟩
  have H := Lib.hid hr1; have G1 := Lib.hid hg
  have hw1 := hg.size
  clear hr1 hs1 hg hB
  go_wp2_with fail
  refine (policy_any _ _ _ a l1 c1' _ H.out (by omega)).mono ?_
  rintro e w2 ⟨b, n, c, R, b2, m, c2, U, p', rfl, hn, hm, ho, hp, hg, hr, hpp⟩
  have H2 := Lib.hid hr; have G2 := Lib.hid (grown_new G1.out (Nat.le_refl _) hg); have O2 := Lib.hid (ho.lower hw1); have P2 := Lib.hid (hp.lower hw1)
  have HS := Lib.hid ho.lt; have HT := Lib.hid hp.lt
  have hB1 : w.heap.size < w1.heap.size := H.out.lt
  have hlo := ho.lt; have hlp := hp.lt
  clear ho hp hg hr H G1 HS HT
  go_wp2_with fail
  refine (who_any _ _ _ a l1 c1' _ H2.out (by omega)).mono ?_
  rintro e w3 ⟨b3, q, c3, p3, z, rfl, hq, hz, hg, hr, hp3⟩
  have hw2 := G2.out.size
  have hB2 : w.heap.size < w2.heap.size := H2.out.lt
  have hlz := hz.lt
  have H3 := Lib.hid hr; have G3 := Lib.hid (grown_new G2.out (Nat.le_refl _) hg); have O3 := Lib.hid (O2.out.kept hg (by intro e; have := Option.some.inj e; omega)); have P3 := Lib.hid (P2.out.kept hg (by intro e; have := Option.some.inj e; omega)); have Z3 := Lib.hid (hz.lower hw2)
  clear hz hg hr H2 G2 O2 P2
  go_wp2_with fail
  refine (pick_any _ _ _ a l1 c1' _ 102 H3.out (by omega) (by omega)).mono ?_
  rintro e w4 ⟨x, x0, x1, rfl, hr, hg, hs⟩
  have G4 := Lib.hid (grown_new G3.out (Nat.le_refl _) hg); have O4 := Lib.hid (O3.out.kept hg (by intro e; have := Option.some.inj e; omega)); have P4 := Lib.hid (P3.out.kept hg (by intro e; have := Option.some.inj e; omega)); have Z4 := Lib.hid (Z3.out.kept hg (by intro e; have := Option.some.inj e; omega))
  clear hr hg hs H3 G3 O3 P3 Z3
  go_wp2
  (try simp only [Exit.inBlock, Exit.then])
  refine bodyPost_ret (results_four rfl _ _ _) rfl ?_
  exact ⟨b, n, c, R, b2, m, c2, U, b3, q, c3, z, x - 1, rfl, hn, hm, hq, O4.out, P4.out, Z4.out, G4.out⟩
set_option maxHeartbeats 2000000 in
theorem drawPoO (w : World) (a : Option Addr) (len cap : Nat) (hB : Bytes w w.heap.size a len) (hc : len ≤ cap) (hm : cap ≤ maxLen) :
    Calls Try.prog 34 #[.slice a len cap] w (GotRk w) := by
  go_enter Try.func34, Try.ntmps34
  go_wp2_with fail
  refine (open_any _ w.heap.size a len cap hB (Nat.le_refl _) hc hm).mono ?_
  rintro e w1 ⟨rfl, hg, hs1, l1, c1', hr1⟩
  have H := Lib.hid hr1; have G1 := Lib.hid hg
  have hw1 := hg.size
  clear hr1 hs1 hg hB
  go_wp2_with fail
  refine (policy_any _ _ _ a l1 c1' _ H.out (by omega)).mono ?_
  rintro e w2 ⟨b, n, c, R, b2, m, c2, U, p', rfl, hn, hm, ho, hp, hg, hr, hpp⟩
  have H2 := Lib.hid hr; have G2 := Lib.hid (grown_new G1.out (Nat.le_refl _) hg); have O2 := Lib.hid (ho.lower hw1); have P2 := Lib.hid (hp.lower hw1)
  have HS := Lib.hid ho.lt; have HT := Lib.hid hp.lt
  have hB1 : w.heap.size < w1.heap.size := H.out.lt
  have hlo := ho.lt; have hlp := hp.lt
  clear ho hp hg hr H G1 HS HT
  go_wp2_with fail
  refine (pick_any _ _ _ a l1 c1' _ 5 H2.out (by omega) (by omega)).mono ?_
  rintro e w3 ⟨x, x0, x1, rfl, hr, hg, hs⟩
  have H3 := Lib.hid hr; have G3 := Lib.hid (grown_new G2.out (Nat.le_refl _) hg); have O3 := Lib.hid (O2.out.kept hg (by intro e; have := Option.some.inj e; omega)); have P3 := Lib.hid (P2.out.kept hg (by intro e; have := Option.some.inj e; omega))
  have hB3 : w.heap.size < w3.heap.size := hr.lt
  clear hr hg hs H2 G2 O2 P2
  by_cases h0 : x = 0
  · subst h0
    have hgA := Draw.grown_alloc w3 (.cells #[.string ⟨#[97]⟩, .string ⟨#[100]⟩, .string ⟨#[]⟩] 9) none
    have OA := Lib.hid (O3.out.keptN hgA); have PA := Lib.hid (P3.out.keptN hgA); have GA := Lib.hid (gtr G3.out hgA); have HA := Lib.hid (rdN H3.out hgA)
    have TA := Lib.hid (txt3 (Blk.new w3 #[.string ⟨#[97]⟩, .string ⟨#[100]⟩, .string ⟨#[]⟩] 9))
    clear hgA O3 P3 G3 H3
    go_wp2_with fail
    refine (ofp_any _ _ _ a l1 c1' _ HA.out (by omega) w3.heap.size 3 TA.out (by omega) (by omega) (by omega)).mono ?_
    rintro e w4 ⟨s, rfl, hg, hr⟩
    have H := Lib.hid hr; have G := Lib.hid (grown_new GA.out (Nat.le_refl _) hg); have O := Lib.hid (OA.out.kept hg (by intro e; have := Option.some.inj e; omega)); have P := Lib.hid (PA.out.kept hg (by intro e; have := Option.some.inj e; omega))
    clear hg hr TA OA PA GA HA
    go_wp2_with fail
    refine (pick_any _ _ _ a l1 c1' _ 8 H.out (by omega) (by omega)).mono ?_
    rintro e w5 ⟨x, x0, x1, rfl, hr, hg, hs⟩
    have H4 := Lib.hid hr; have G4 := Lib.hid (grown_new G.out (Nat.le_refl _) hg); have O4 := Lib.hid (O.out.kept hg (by intro e; have := Option.some.inj e; omega)); have P4 := Lib.hid (P.out.kept hg (by intro e; have := Option.some.inj e; omega))
    clear hg hr hs H G O P
    go_wp2_with fail
    refine (pick_any _ _ _ a l1 c1' _ 110 H4.out (by omega) (by omega)).mono ?_
    rintro e w6 ⟨y, y0, y1, rfl, hr, hg, hs⟩
    have hG := grown_new G4.out (Nat.le_refl _) hg; have hO := O4.out.kept hg (by intro e; have := Option.some.inj e; omega); have hP := P4.out.kept hg (by intro e; have := Option.some.inj e; omega)
    have hw4 := hG.size
    have hgA := Draw.grown_alloc w6 (.cells #[.string s, .int .i64 x, .int .i64 y] 39) none
    have OA := Lib.hid (hO.keptN hgA); have PA := Lib.hid (hP.keptN hgA); have GA := Lib.hid (gtr hG hgA)
    have CA := Lib.hid (Blk.new w6 #[.string s, .int .i64 x, .int .i64 y] 39)
    have hpl := PA.out.lt
    clear hr hg hs hG hO hP hgA O4 P4 G4 H4
    go_wp2_with (at_builtin; refine app_U rfl _ _ rfl w.heap.size U (fun _ => ⟨s, x, y⟩) b2 m c2 rfl PA.out w6.heap.size 0 1 1 rfl (one_U CA.out) (by omega) (by rw [World.size_alloc]; omega) ?_; intro b' c' w7 hO5 hg5; have O5 := Lib.hid (OA.out.kept hg5 (fun e => OA.out.ne PA.out e)); have P5 := Lib.hid hO5; have G5 := Lib.hid (grown_new GA.out hpl.1 hg5); clear hO5 hg5)
    go_ret2
    exact ⟨b, n, c, R, b', m + 1, c', _, rfl, hn, by omega, O5.out, P5.out, G5.out⟩
  · have e0 : (x == 0) = false := by simp; omega
    go_wp2
    go_ret2
    exact ⟨b, n, c, R, b2, m, c2, U, rfl, hn, by omega, O3.out, P3.out, G3.out⟩
end Po
end Go.Proofs.Ythbigmcklacbnaa
