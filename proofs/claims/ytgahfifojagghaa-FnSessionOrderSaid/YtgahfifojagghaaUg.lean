/-
  Draws of sessions for the laws.
-/
import Derived.Test.YtgahfifojagghaaUd
namespace Go.Proofs.Ytgahfifojagghaa
namespace Draw
open Go.RowKit Alg Mem Con Mp Hd
set_option linter.unusedVariables false

/-- A session, drawn for a law. -/
def GotSn (w : World) (e : Ending) (w' : World) : Prop := ∃ (need many : Int) (ag : Option Addr) (ng cg : Nat) (zg : Nat → Int) (ac : Option Addr) (nc cc : Nat) (zc : Nat → Int) (msg : Int) (a3 : Option Addr) (n c3 : Nat) (S : Nat → SV), e = .returned (.agg #[.int .i64 need, .int .i64 many, .slice ag ng cg, .slice ac nc cc, .int .i64 msg, .slice a3 n c3]) ∧ OE w' w.heap.size ag ng cg zg ∧ OE w' w.heap.size ac nc cc zc ∧ OwnSh w' w.heap.size (.slice a3 n c3) n S ∧ (ng ≤ 6 ∧ nc ≤ 6 ∧ n ≤ 6) ∧ w.grownBy w' none
/-- .. with a member and a part. -/
def GotSP' (w : World) (e : Ending) (w' : World) : Prop := ∃ (need many : Int) (ag : Option Addr) (ng cg : Nat) (zg : Nat → Int) (ac : Option Addr) (nc cc : Nat) (zc : Nat → Int) (msg : Int) (a3 : Option Addr) (n c3 : Nat) (S : Nat → SV) (m z : Int), e = .returned (.tuple #[.agg #[.int .i64 need, .int .i64 many, .slice ag ng cg, .slice ac nc cc, .int .i64 msg, .slice a3 n c3], .int .i64 m, .int .i64 z]) ∧ OE w' w.heap.size ag ng cg zg ∧ OE w' w.heap.size ac nc cc zc ∧ OwnSh w' w.heap.size (.slice a3 n c3) n S ∧ (ng ≤ 6 ∧ nc ≤ 6 ∧ n ≤ 6) ∧ w.grownBy w' none
theorem sesPQ_get {w : World} {need many : Int} {ng : Nat} {zg : Nat → Int} {nc : Nat} {zc : Nat → Int} {msg : Int} {n : Nat} {S : Nat → SV} {m z : Int} {e : Ending} {w' : World} (h1 : tsF need many ng zg nc zc msg n S = true) (h2 : fok z = true) (h : SesPQ w need many ng zg nc zc msg n S m z e w') : SesQ w need many ng zg nc zc msg n (ptS S m n z) (hasz (mS S) m n) e w' := by
  unfold SesPQ at h; rw [if_pos ⟨h1, h2⟩] at h; exact h
theorem sesP_none {w : World} {need many : Int} {ng : Nat} {zg : Nat → Int} {nc : Nat} {zc : Nat → Int} {msg : Int} {n : Nat} {S : Nat → SV} {m z : Int} {e : Ending} {w' : World} (h1 : ¬ (tsF need many ng zg nc zc msg n S = true ∧ fok z = true)) (h : SesP w need many ng zg nc zc msg n S m z e w') : SesZ w e w' := by
  unfold SesP at h; rw [if_neg h1] at h; exact h
theorem sesPQ_none {w : World} {need many : Int} {ng : Nat} {zg : Nat → Int} {nc : Nat} {zc : Nat → Int} {msg : Int} {n : Nat} {S : Nat → SV} {m z : Int} {e : Ending} {w' : World} (h1 : ¬ (tsF need many ng zg nc zc msg n S = true ∧ fok z = true)) (h : SesPQ w need many ng zg nc zc msg n S m z e w') : SesZ w e w' := by
  unfold SesPQ at h; rw [if_neg h1] at h; exact h
theorem ret_s3 {fn : Func} {p q u : Tmp} (h : fn.results = #[.cell p 28, .tmp q, .tmp u]) (tmps : Array Value) {w : World} {b : Nat} {v0 v1 v2 v3 v4 v5 : Value} {T : TypeId} (hp : tmps.getD p undef = .pointer (some ⟨b, 0, none⟩)) (hb : Blk w b #[v0, v1, v2, v3, v4, v5] T) :
    (results fn tmps).run Try.prog w = .ok (.tuple #[.agg #[v0, v1, v2, v3, v4, v5], tmps.getD q undef, tmps.getD u undef]) w := by
  have hp' : tmps[p]?.getD undef = .pointer (some ⟨b, 0, none⟩) := by simpa using hp
  simp [results, h, hp', asAddr, run_loadVar_row w b T 28 #[v0, v1, v2, v3, v4, v5] (0, 0) _ hb Try.underlying28 rfl size_ses, Result.andThen]
set_option maxRecDepth 100000 in
set_option maxHeartbeats 4000000 in
theorem drawSesR (w : World) (a : Option Addr) (len cap : Nat) (hB : Bytes w w.heap.size a len) (hc : len ≤ cap) (hm : cap ≤ maxLen) :
    Calls Try.prog 11 #[.slice a len cap] w (GotSn w) := by
  have hs0 : (w.alloc (.cells #[.int .i64 0, .int .i64 0, .slice none 0 0, .slice none 0 0, .int .i64 0, .slice none 0 0] 28)).heap.size = w.heap.size + 1 := by show (w.heap.push _).size = _; simp
  have G := Lib.hid (grown_alloc w (.cells #[.int .i64 0, .int .i64 0, .slice none 0 0, .slice none 0 0, .int .i64 0, .slice none 0 0] 28) none)
  have HB := Lib.hid (hB.kept (w' := w.alloc (.cells #[.int .i64 0, .int .i64 0, .slice none 0 0, .slice none 0 0, .int .i64 0, .slice none 0 0] 28)) (fun k hk => Below.heap_alloc _ _ _ hk))
  have R := Lib.hid (Blk.new w #[.int .i64 0, .int .i64 0, .slice none 0 0, .slice none 0 0, .int .i64 0, .slice none 0 0] 28)
  clear hB
  go_enter Try.func11, Try.ntmps11
  go_wp2_with fail
  refine (open_any _ w.heap.size a len cap HB.out (by omega) hc hm).mono ?_
  rintro e w1 ⟨rfl, hg, hs1, l1, c1', hr1⟩
  rw [hs0] at hr1 hs1
  have H := Lib.hid hr1
  replace G := Lib.hid (gtr G.out hg)
  replace R := Lib.hid (R.out.keptN hg)
  clear hg
  have hw1 : w.heap.size + 1 < w1.heap.size := by omega
  clear hr1 hs1 HB hs0
  go_wp2_with fail
  refine (sess_any _ _ _ a l1 c1' 0 H.out (by omega)).mono ?_
  rintro e w2 ⟨need, many, ag, ng, cg, zg, ac, nc, cc, zc, msg, a3, n, c3, S, rfl, hq1, hq2, hq3, hbd, hg, p2, hp2, hp2', hr⟩
  have I1 := Lib.hid hq1; have I2 := Lib.hid hq2; have O := Lib.hid hq3
  have hw2 := hg.size
  replace H := Lib.hid hr
  replace G := Lib.hid (grown_new G.out (by omega) hg)
  replace R := Lib.hid (R.out.kept hg (by intro e; have e := Option.some.inj e; omega))
  clear hg
  clear hr
  clear hq1 hq2 hq3
  go_wp2_with (first
    | (refine wpList_store_blk rfl 28 (.tmp 2) (.tmp 5) _ _ _ 28 R.out rfl rfl rfl rfl (by kernel_rfl) (by simp [Value.oneCell']) rfl ?_; intro V hgV hRV; have HGV := Lib.hid hgV; have HRV := Lib.hid hRV; clear hgV hRV))
  (try simp only [Exit.inBlock, Exit.then])
  refine bodyPost_ret (ret_ses rfl _ rfl HRV.out) rfl ?_
  have hne : ∀ g, (some w.heap.size : Option Nat) = some g → g < w1.heap.size := fun g e => by have e := Option.some.inj e; omega
  exact ⟨need, many, ag, ng, cg, zg, ac, nc, cc, zc, msg, a3, n, c3, S, rfl, (I1.out.kept HGV.out hne).lower (by omega), (I2.out.kept HGV.out hne).lower (by omega), (O.out.kept HGV.out hne).lower (by omega), hbd, grown_new G.out (Nat.le_refl _) HGV.out⟩
set_option maxRecDepth 100000 in
set_option maxHeartbeats 4000000 in
theorem drawSesPut (w : World) (a : Option Addr) (len cap : Nat) (hB : Bytes w w.heap.size a len) (hc : len ≤ cap) (hm : cap ≤ maxLen) :
    Calls Try.prog 16 #[.slice a len cap] w (GotSP' w) := by
  have hs0 : (w.alloc (.cells #[.int .i64 0, .int .i64 0, .slice none 0 0, .slice none 0 0, .int .i64 0, .slice none 0 0] 28)).heap.size = w.heap.size + 1 := by show (w.heap.push _).size = _; simp
  have G := Lib.hid (grown_alloc w (.cells #[.int .i64 0, .int .i64 0, .slice none 0 0, .slice none 0 0, .int .i64 0, .slice none 0 0] 28) none)
  have HB := Lib.hid (hB.kept (w' := w.alloc (.cells #[.int .i64 0, .int .i64 0, .slice none 0 0, .slice none 0 0, .int .i64 0, .slice none 0 0] 28)) (fun k hk => Below.heap_alloc _ _ _ hk))
  have R := Lib.hid (Blk.new w #[.int .i64 0, .int .i64 0, .slice none 0 0, .slice none 0 0, .int .i64 0, .slice none 0 0] 28)
  clear hB
  go_enter Try.func16, Try.ntmps16
  go_wp2_with fail
  refine (open_any _ w.heap.size a len cap HB.out (by omega) hc hm).mono ?_
  rintro e w1 ⟨rfl, hg, hs1, l1, c1', hr1⟩
  rw [hs0] at hr1 hs1
  have H := Lib.hid hr1
  replace G := Lib.hid (gtr G.out hg)
  replace R := Lib.hid (R.out.keptN hg)
  clear hg
  have hw1 : w.heap.size + 1 < w1.heap.size := by omega
  clear hr1 hs1 HB hs0
  go_wp2_with fail
  refine (sess_any _ _ _ a l1 c1' 0 H.out (by omega)).mono ?_
  rintro e w2 ⟨need, many, ag, ng, cg, zg, ac, nc, cc, zc, msg, a3, n, c3, S, rfl, hq1, hq2, hq3, hbd, hg, p2, hp2, hp2', hr⟩
  have I1 := Lib.hid hq1; have I2 := Lib.hid hq2; have O := Lib.hid hq3
  have hw2 := hg.size
  replace H := Lib.hid hr
  replace G := Lib.hid (grown_new G.out (by omega) hg)
  replace R := Lib.hid (R.out.kept hg (by intro e; have e := Option.some.inj e; omega))
  clear hg
  clear hr
  clear hq1 hq2 hq3
  go_wp2_with fail
  refine (pick_any _ _ _ a l1 c1' _ 5 H.out (by omega) (by omega)).mono ?_
  rintro e w3 ⟨x, x0, x1, rfl, hr, hg, hs⟩
  replace H := Lib.hid hr
  replace G := Lib.hid (grown_new G.out (by omega) hg)
  replace R := Lib.hid (R.out.kept hg (by intro e; have e := Option.some.inj e; omega))
  replace I1 := Lib.hid (I1.out.kept hg (fun g e => by have e := Option.some.inj e; omega))
  replace I2 := Lib.hid (I2.out.kept hg (fun g e => by have e := Option.some.inj e; omega))
  replace O := Lib.hid (O.out.kept hg (fun g e => by have e := Option.some.inj e; omega))
  clear hg
  clear hr
  clear hs
  go_wp2_with fail
  refine (num_any _ _ _ a l1 c1' _ H.out (by omega)).mono ?_
  rintro e w4 ⟨z, z0, z1, rfl, hg, p7, hp7, hp7', hr⟩
  replace H := Lib.hid hr
  replace G := Lib.hid (grown_new G.out (by omega) hg)
  replace R := Lib.hid (R.out.kept hg (by intro e; have e := Option.some.inj e; omega))
  replace I1 := Lib.hid (I1.out.kept hg (fun g e => by have e := Option.some.inj e; omega))
  replace I2 := Lib.hid (I2.out.kept hg (fun g e => by have e := Option.some.inj e; omega))
  replace O := Lib.hid (O.out.kept hg (fun g e => by have e := Option.some.inj e; omega))
  clear hg
  clear hr
  go_wp2_with (first
    | (refine wpList_store_blk rfl 28 (.tmp 2) (.tmp 9) _ _ _ 28 R.out rfl rfl rfl rfl (by kernel_rfl) (by simp [Value.oneCell']) rfl ?_; intro V hgV hRV; have HGV := Lib.hid hgV; have HRV := Lib.hid hRV; clear hgV hRV))
  (try simp only [Exit.inBlock, Exit.then])
  refine bodyPost_ret (ret_s3 rfl _ rfl HRV.out) rfl ?_
  have hne : ∀ g, (some w.heap.size : Option Nat) = some g → g < w1.heap.size := fun g e => by have e := Option.some.inj e; omega
  exact ⟨need, many, ag, ng, cg, zg, ac, nc, cc, zc, msg, a3, n, c3, S, _, _, rfl, (I1.out.kept HGV.out hne).lower (by omega), (I2.out.kept HGV.out hne).lower (by omega), (O.out.kept HGV.out hne).lower (by omega), hbd, grown_new G.out (Nat.le_refl _) HGV.out⟩
end Draw
end Go.Proofs.Ytgahfifojagghaa
