/-
  Courts: what the program's operations answer.
-/
import Derived.Test.YtbfmigmhmjgdgaaZc
import Derived.Deep.RegionHeld3
namespace Go.Proofs.Ytbfmigmhmjgdgaa
namespace Ct
open Go.RowKit Alg Mem Con Draw
set_option linter.unusedVariables false

/-- A court made anew. -/
def newC (C : CV) (now : Int) : CV := ⟨C.many, C.need, true, now, 0, C.f, false⟩
def opS (C : CV) (now : Int) : CV := if stF C.on C.veto = true then C else newC C now
theorem opS_as {C : CV} {now : Int} (h : stF C.on C.veto = true) : opS C now = C := if_pos h
theorem opS_new {C : CV} {now : Int} (h : stF C.on C.veto = false) : opS C now = newC C now := if_neg (by rw [h]; decide)
def vtA (C : CV) (who : Int) : Bool := stF C.on C.veto && !hasz C.f who C.n
def addC (C : CV) (who : Int) : CV := ⟨C.many, C.need, C.on, C.at_, C.n + 1, addz C.f C.n who, C.veto⟩
def vtS (C : CV) (who : Int) : CV := if vtA C who = true then addC C who else C
theorem vtS_new {C : CV} {who : Int} (h : vtA C who = true) : vtS C who = addC C who := if_pos h
theorem vtS_as {C : CV} {who : Int} (h : vtA C who = false) : vtS C who = C := if_neg (by rw [h]; decide)
def endC (C : CV) : CV := ⟨C.many, C.need, C.on, C.at_, C.n, C.f, true⟩
def veS (C : CV) : CV := if stF C.on C.veto = true then endC C else C
theorem veS_new {C : CV} (h : stF C.on C.veto = true) : veS C = endC C := if_pos h
theorem veS_as {C : CV} (h : stF C.on C.veto = false) : veS C = C := if_neg (by rw [h]; decide)
/-- What an operation answers, and what else it may write: the row of its slice. -/
def GotD (W w : World) (s : Value) (C : CV) (ok : Bool) (e : Ending) (w' : World) : Prop :=
  ∃ a c, e = .returned (.tuple #[.agg #[.int .i64 C.many, .int .i64 C.need, .bool C.on, .int .i64 C.at_, .slice a C.n c, .bool C.veto], .bool ok]) ∧ OEQ w' W.heap.size a C.n c C.f ∧ W.grownBy w' none ∧ w.grownBy w' s.ownBlock
theorem got2 {W w w' : World} {s : Value} {C D : CV} {x y : Bool} {e : Ending} (h : GotD W w s C x e w') (hC : D = C) (hx : y = x) : GotD W w s D y e w' := by rw [hC, hx]; exact h
theorem gweak {w w' : World} (h : w.grownBy w' none) (r : Option Nat) : w.grownBy w' r := ⟨h.os, h.tape, h.output, h.size, fun k hk _ => h.block k hk (by simp)⟩
set_option maxRecDepth 100000 in
set_option maxHeartbeats 2000000 in
theorem iopened (W w : World) (many need : Int) (on : Bool) (at_ : Int) (a : Option Addr) (n c : Nat) (f : Nat → Int) (veto : Bool) (now : Int) (hW : W.grownBy w none) (hO : OEQ w W.heap.size a n c f) :
    Calls Try.prog 69 #[.agg #[.int .i64 many, .int .i64 need, .bool on, .int .i64 at_, .slice a n c, .bool veto], .int .i64 now] w (GotD W w (.slice a n c) (opS ⟨many, need, on, at_, n, f, veto⟩ now) (!stF on veto)) := by
  have hs0 : ((w.alloc (.cells #[.int .i64 many, .int .i64 need, .bool on, .int .i64 at_, .slice a n c, .bool veto] 27)).alloc (.cells #[.int .i64 0, .int .i64 0, .bool false, .int .i64 0, .slice none 0 0, .bool false] 27)).heap.size = w.heap.size + 1 + 1 := by show ((w.heap.push _).push _).size = _; simp
  have HS := Lib.hid hs0; clear hs0
  have G := Lib.hid (gtr (grown_alloc w (.cells #[.int .i64 many, .int .i64 need, .bool on, .int .i64 at_, .slice a n c, .bool veto] 27) none) (grown_alloc _ (.cells #[.int .i64 0, .int .i64 0, .bool false, .int .i64 0, .slice none 0 0, .bool false] 27) none))
  have K := Lib.hid ((Blk.new w #[.int .i64 many, .int .i64 need, .bool on, .int .i64 at_, .slice a n c, .bool veto] 27).keptN (grown_alloc _ (.cells #[.int .i64 0, .int .i64 0, .bool false, .int .i64 0, .slice none 0 0, .bool false] 27) none))
  have R := Lib.hid (blk_new2 w (.cells #[.int .i64 many, .int .i64 need, .bool on, .int .i64 at_, .slice a n c, .bool veto] 27) #[.int .i64 0, .int .i64 0, .bool false, .int .i64 0, .slice none 0 0, .bool false] 27)
  have GW := Lib.hid (gtr hW G.out)
  have O := Lib.hid (hO.keptN G.out)
  have hWs := hW.size
  clear hW hO
  go_enter Try.func69, Try.ntmps69
  obtain ⟨k0, k1, k2, k3, k4, k5, f0, f1, f2, f3, f4, f5⟩ := c6_of K.out
  go_wp2_with fail
  refine (istands _ _ _ _ _ on veto).mono ?_
  rintro e w1 ⟨rfl, hg⟩
  clear k0 k1 k2 k3 k4 k5 f0 f1 f2 f3 f4 f5
  replace G := Lib.hid (gtr G.out hg)
  replace K := Lib.hid (K.out.keptN hg)
  replace R := Lib.hid (R.out.keptN hg)
  replace GW := Lib.hid (gtr GW.out hg)
  replace O := Lib.hid (O.out.keptN hg)
  have hsz := hg.size
  rw [HS.out] at hsz
  clear hg
  obtain ⟨k0, k1, k2, k3, k4, k5, f0, f1, f2, f3, f4, f5⟩ := c6_of K.out
  cases hst : stF on veto with
  | true =>
    have HP := Lib.hid (opS_as (C := ⟨many, need, on, at_, n, f, veto⟩) (now := now) hst)
    have HB := Lib.hid (show (!stF on veto) = false by rw [hst]; rfl)
    clear hst
    go_wp2_with (first
      | (refine wpList_store_atQ rfl 27 (.tmp 4) (.tmp 8) _ 0 _ _ _ #[.int .i64 many, .int .i64 need, .bool on, .int .i64 at_, .slice a n c, .bool veto] 27 R.out rfl rfl rfl rfl (Nat.le_of_ble_eq_true rfl) (by kernel_rfl) (by kernel_rfl) (by kernel_rfl) ?_; intro V hgV hRV; have HGV := Lib.hid hgV; have HRV := Lib.hid hRV; clear hgV hRV))
    (try simp only [Exit.inBlock, Exit.then])
    refine bodyPost_ret (ret_court2 rfl _ rfl HRV.out) rfl ?_
    exact got2 ⟨_, _, rfl, O.out.keptC R.out (by decide) HGV.out, grown_new GW.out (by omega) HGV.out, gweak (grown_new G.out (by omega) HGV.out) _⟩ HP.out HB.out
  | false =>
    have HP := Lib.hid (opS_new (C := ⟨many, need, on, at_, n, f, veto⟩) (now := now) hst)
    have HB := Lib.hid (show (!stF on veto) = true by rw [hst]; rfl)
    clear hst
    go_wp2_with (first
      | (refine wpList_store_atQ rfl 4 (.tmp 9) (.const (.bool true)) _ 2 _ _ _ #[.int .i64 many, .int .i64 need, .bool true, .int .i64 at_, .slice a n c, .bool veto] 27 K.out rfl rfl rfl rfl (Nat.le_of_ble_eq_true rfl) (by kernel_rfl) (by kernel_rfl) (by kernel_rfl) ?_; intro V hgV hRV; have R2 := Lib.hid (R.out.kept hgV (by intro e; have e := Option.some.inj e; omega)); have G2 := Lib.hid (grown_new GW.out (by omega) hgV); have H2 := Lib.hid (grown_new G.out (by omega) hgV); have K2 := Lib.hid hRV; clear hgV hRV k0 k1 k2 k3 k4 k5 f0 f1 f2 f3 f4 f5; obtain ⟨k0, k1, k2, k3, k4, k5, f0, f1, f2, f3, f4, f5⟩ := c6_of K2.out)
      | (refine wpList_store_atQ rfl 25 (.tmp 12) (.tmp 11) _ 3 _ _ _ #[.int .i64 many, .int .i64 need, .bool true, .int .i64 now, .slice none 0 0, .bool false] 27 K2.out rfl rfl rfl rfl (Nat.le_of_ble_eq_true rfl) (by kernel_rfl) (by kernel_rfl) (by kernel_rfl) ?_; intro V3 hgV hRV; have R3 := Lib.hid (R2.out.kept hgV (by intro e; have e := Option.some.inj e; omega)); have G3 := Lib.hid (grown_new G2.out (by omega) hgV); have H3 := Lib.hid (grown_new H2.out (by omega) hgV); have K3 := Lib.hid hRV; clear hgV hRV k0 k1 k2 k3 k4 k5 f0 f1 f2 f3 f4 f5; obtain ⟨k0, k1, k2, k3, k4, k5, f0, f1, f2, f3, f4, f5⟩ := c6_of K3.out)
      | (refine wpList_store_atQ rfl 27 (.tmp 4) (.tmp 13) _ 0 _ _ _ #[.int .i64 many, .int .i64 need, .bool true, .int .i64 now, .slice none 0 0, .bool false] 27 R3.out rfl rfl rfl rfl (Nat.le_of_ble_eq_true rfl) (by kernel_rfl) (by kernel_rfl) (by kernel_rfl) ?_; intro V4 hgV hRV; have HGV := Lib.hid hgV; have HRV := Lib.hid hRV; clear hgV hRV))
    (try simp only [Exit.inBlock, Exit.then])
    refine bodyPost_ret (ret_court2 rfl _ rfl HRV.out) rfl ?_
    exact got2 ⟨_, _, rfl, OEQ.nil _ _ _, grown_new G3.out (by omega) HGV.out, gweak (grown_new H3.out (by omega) HGV.out) _⟩ HP.out HB.out
set_option maxRecDepth 100000 in
set_option maxHeartbeats 2000000 in
theorem isupported (W w : World) (many need : Int) (on : Bool) (at_ : Int) (a : Option Addr) (n c : Nat) (f : Nat → Int) (veto : Bool) (who : Int) (hW : W.grownBy w none) (hO : OEQ w W.heap.size a n c f) (hn : n ≤ 2000000) :
    Calls Try.prog 70 #[.agg #[.int .i64 many, .int .i64 need, .bool on, .int .i64 at_, .slice a n c, .bool veto], .int .i64 who] w (GotD W w (.slice a n c) (vtS ⟨many, need, on, at_, n, f, veto⟩ who) (vtA ⟨many, need, on, at_, n, f, veto⟩ who)) := by
  have hs0 : ((w.alloc (.cells #[.int .i64 many, .int .i64 need, .bool on, .int .i64 at_, .slice a n c, .bool veto] 27)).alloc (.cells #[.int .i64 0, .int .i64 0, .bool false, .int .i64 0, .slice none 0 0, .bool false] 27)).heap.size = w.heap.size + 1 + 1 := by show ((w.heap.push _).push _).size = _; simp
  have HS := Lib.hid hs0; clear hs0
  have G := Lib.hid (gtr (grown_alloc w (.cells #[.int .i64 many, .int .i64 need, .bool on, .int .i64 at_, .slice a n c, .bool veto] 27) none) (grown_alloc _ (.cells #[.int .i64 0, .int .i64 0, .bool false, .int .i64 0, .slice none 0 0, .bool false] 27) none))
  have K := Lib.hid ((Blk.new w #[.int .i64 many, .int .i64 need, .bool on, .int .i64 at_, .slice a n c, .bool veto] 27).keptN (grown_alloc _ (.cells #[.int .i64 0, .int .i64 0, .bool false, .int .i64 0, .slice none 0 0, .bool false] 27) none))
  have R := Lib.hid (blk_new2 w (.cells #[.int .i64 many, .int .i64 need, .bool on, .int .i64 at_, .slice a n c, .bool veto] 27) #[.int .i64 0, .int .i64 0, .bool false, .int .i64 0, .slice none 0 0, .bool false] 27)
  have GW := Lib.hid (gtr hW G.out)
  have O := Lib.hid (hO.keptN G.out)
  have hWs := hW.size
  clear hW hO
  go_enter Try.func70, Try.ntmps70
  obtain ⟨k0, k1, k2, k3, k4, k5, f0, f1, f2, f3, f4, f5⟩ := c6_of K.out
  go_wp2_with fail
  refine (istands _ _ _ _ _ on veto).mono ?_
  rintro e w1 ⟨rfl, hg⟩
  clear k0 k1 k2 k3 k4 k5 f0 f1 f2 f3 f4 f5
  replace G := Lib.hid (gtr G.out hg)
  replace K := Lib.hid (K.out.keptN hg)
  replace R := Lib.hid (R.out.keptN hg)
  replace GW := Lib.hid (gtr GW.out hg)
  replace O := Lib.hid (O.out.keptN hg)
  have hsz := hg.size
  rw [HS.out] at hsz
  clear hg
  obtain ⟨k0, k1, k2, k3, k4, k5, f0, f1, f2, f3, f4, f5⟩ := c6_of K.out
  cases hst : stF on veto with
  | false =>
    have HA := Lib.hid (show vtA ⟨many, need, on, at_, n, f, veto⟩ who = false by unfold vtA; rw [hst]; rfl)
    have HP := Lib.hid (vtS_as HA.out)
    clear hst
    go_wp2_with (first
      | (refine wpList_store_atQ rfl 27 (.tmp 4) (.tmp 16) _ 0 _ _ _ #[.int .i64 many, .int .i64 need, .bool on, .int .i64 at_, .slice a n c, .bool veto] 27 R.out rfl rfl rfl rfl (Nat.le_of_ble_eq_true rfl) (by kernel_rfl) (by kernel_rfl) (by kernel_rfl) ?_; intro V hgV hRV; have HGV := Lib.hid hgV; have HRV := Lib.hid hRV; clear hgV hRV))
    (try simp only [Exit.inBlock, Exit.then])
    refine bodyPost_ret (ret_court2 rfl _ rfl HRV.out) rfl ?_
    exact got2 ⟨_, _, rfl, O.out.keptC R.out (by decide) HGV.out, grown_new GW.out (by omega) HGV.out, gweak (grown_new G.out (by omega) HGV.out) _⟩ HP.out HA.out
  | true =>
    go_wp2_with fail
    refine (contains_any _ a n c f who O.out.ints (by omega)).mono ?_
    rintro e w' ⟨rfl, rfl⟩
    cases hh : hasz f who n with
    | true =>
      have HA := Lib.hid (show vtA ⟨many, need, on, at_, n, f, veto⟩ who = false by unfold vtA; rw [hst, hh]; rfl)
      have HP := Lib.hid (vtS_as HA.out)
      clear hst hh
      go_wp2_with (first
        | (refine wpList_store_atQ rfl 27 (.tmp 4) (.tmp 16) _ 0 _ _ _ #[.int .i64 many, .int .i64 need, .bool on, .int .i64 at_, .slice a n c, .bool veto] 27 R.out rfl rfl rfl rfl (Nat.le_of_ble_eq_true rfl) (by kernel_rfl) (by kernel_rfl) (by kernel_rfl) ?_; intro V hgV hRV; have HGV := Lib.hid hgV; have HRV := Lib.hid hRV; clear hgV hRV))
      (try simp only [Exit.inBlock, Exit.then])
      refine bodyPost_ret (ret_court2 rfl _ rfl HRV.out) rfl ?_
      exact got2 ⟨_, _, rfl, O.out.keptC R.out (by decide) HGV.out, grown_new GW.out (by omega) HGV.out, gweak (grown_new G.out (by omega) HGV.out) _⟩ HP.out HA.out
    | false =>
      have HA := Lib.hid (show vtA ⟨many, need, on, at_, n, f, veto⟩ who = true by unfold vtA; rw [hst, hh]; rfl)
      have HP := Lib.hid (vtS_new HA.out)
      clear hst hh
      have OW2 := Lib.hid (O.out.keptN (grown_alloc _ (.cells #[.int .i64 who] 3) none))
      go_wp2_with (first
        | (at_builtin; refine wpList_append_oneQ rfl (.tmp 19) (.tmp 21) rfl W.heap.size a n c f rfl OW2.out ⟨w1.heap.size, 0, none⟩ who rfl (cell_one_new _ _ _) (by omega) (by simp; omega) ?_; intro b1 c1 w2 hO3 hg2; have hg := grow_ownQ (grown_alloc _ (.cells #[.int .i64 who] 3) none) hg2; have K2 := Lib.hid (blk_keptO K.out O.out hg (by decide)); have R2 := Lib.hid (blk_keptO R.out O.out hg (by decide)); have GW2 := Lib.hid (grown_ownQ GW.out O.out hg); have H2 := Lib.hid (grow_ownQ G.out hg); have OW3 := Lib.hid hO3; clear hO3 hg2 hg k0 k1 k2 k3 k4 k5 f0 f1 f2 f3 f4 f5; obtain ⟨k0, k1, k2, k3, k4, k5, f0, f1, f2, f3, f4, f5⟩ := c6_of K2.out)
        | (refine wpList_store_atQ rfl 23 (.tmp 24) (.tmp 22) _ 4 _ _ _ #[.int .i64 many, .int .i64 need, .bool on, .int .i64 at_, .slice (some ⟨b1, 0, none⟩) (n + 1) c1, .bool veto] 27 K2.out rfl rfl rfl rfl (Nat.le_of_ble_eq_true rfl) (by kernel_rfl) (by kernel_rfl) (by kernel_rfl) ?_; intro V hgV hRV; have R3 := Lib.hid (R2.out.kept hgV (by intro e; have e := Option.some.inj e; omega)); have GW3 := Lib.hid (grown_new GW2.out (by omega) hgV); have H3 := Lib.hid (grown_newR H2.out (Nat.le_refl _) hgV); have OW4 := Lib.hid (OW3.out.keptC K2.out (by decide) hgV); have K3 := Lib.hid hRV; clear hgV hRV k0 k1 k2 k3 k4 k5 f0 f1 f2 f3 f4 f5; obtain ⟨k0, k1, k2, k3, k4, k5, f0, f1, f2, f3, f4, f5⟩ := c6_of K3.out)
        | (refine wpList_store_atQ rfl 27 (.tmp 4) (.tmp 25) _ 0 _ _ _ #[.int .i64 many, .int .i64 need, .bool on, .int .i64 at_, .slice (some ⟨b1, 0, none⟩) (n + 1) c1, .bool veto] 27 R3.out rfl rfl rfl rfl (Nat.le_of_ble_eq_true rfl) (by kernel_rfl) (by kernel_rfl) (by kernel_rfl) ?_; intro V4 hgV hRV; have HGV := Lib.hid hgV; have HRV := Lib.hid hRV; clear hgV hRV))
      (try simp only [Exit.inBlock, Exit.then])
      refine bodyPost_ret (ret_court2 rfl _ rfl HRV.out) rfl ?_
      exact got2 ⟨_, _, rfl, OW4.out.keptC R3.out (by decide) HGV.out, grown_new GW3.out (by omega) HGV.out, grown_newR H3.out (by omega) HGV.out⟩ HP.out HA.out
set_option maxRecDepth 100000 in
set_option maxHeartbeats 2000000 in
theorem ivetoed (W w : World) (many need : Int) (on : Bool) (at_ : Int) (a : Option Addr) (n c : Nat) (f : Nat → Int) (veto : Bool) (x : Int) (hW : W.grownBy w none) (hO : OEQ w W.heap.size a n c f) :
    Calls Try.prog 71 #[.agg #[.int .i64 many, .int .i64 need, .bool on, .int .i64 at_, .slice a n c, .bool veto], .int .i64 x] w (GotD W w (.slice a n c) (veS ⟨many, need, on, at_, n, f, veto⟩) (stF on veto)) := by
  have hs0 : ((w.alloc (.cells #[.int .i64 many, .int .i64 need, .bool on, .int .i64 at_, .slice a n c, .bool veto] 27)).alloc (.cells #[.int .i64 0, .int .i64 0, .bool false, .int .i64 0, .slice none 0 0, .bool false] 27)).heap.size = w.heap.size + 1 + 1 := by show ((w.heap.push _).push _).size = _; simp
  have HS := Lib.hid hs0; clear hs0
  have G := Lib.hid (gtr (grown_alloc w (.cells #[.int .i64 many, .int .i64 need, .bool on, .int .i64 at_, .slice a n c, .bool veto] 27) none) (grown_alloc _ (.cells #[.int .i64 0, .int .i64 0, .bool false, .int .i64 0, .slice none 0 0, .bool false] 27) none))
  have K := Lib.hid ((Blk.new w #[.int .i64 many, .int .i64 need, .bool on, .int .i64 at_, .slice a n c, .bool veto] 27).keptN (grown_alloc _ (.cells #[.int .i64 0, .int .i64 0, .bool false, .int .i64 0, .slice none 0 0, .bool false] 27) none))
  have R := Lib.hid (blk_new2 w (.cells #[.int .i64 many, .int .i64 need, .bool on, .int .i64 at_, .slice a n c, .bool veto] 27) #[.int .i64 0, .int .i64 0, .bool false, .int .i64 0, .slice none 0 0, .bool false] 27)
  have GW := Lib.hid (gtr hW G.out)
  have O := Lib.hid (hO.keptN G.out)
  have hWs := hW.size
  clear hW hO
  go_enter Try.func71, Try.ntmps71
  obtain ⟨k0, k1, k2, k3, k4, k5, f0, f1, f2, f3, f4, f5⟩ := c6_of K.out
  go_wp2_with fail
  refine (istands _ _ _ _ _ on veto).mono ?_
  rintro e w1 ⟨rfl, hg⟩
  clear k0 k1 k2 k3 k4 k5 f0 f1 f2 f3 f4 f5
  replace G := Lib.hid (gtr G.out hg)
  replace K := Lib.hid (K.out.keptN hg)
  replace R := Lib.hid (R.out.keptN hg)
  replace GW := Lib.hid (gtr GW.out hg)
  replace O := Lib.hid (O.out.keptN hg)
  have hsz := hg.size
  rw [HS.out] at hsz
  clear hg
  obtain ⟨k0, k1, k2, k3, k4, k5, f0, f1, f2, f3, f4, f5⟩ := c6_of K.out
  cases hst : stF on veto with
  | false =>
    have HP := Lib.hid (veS_as (C := ⟨many, need, on, at_, n, f, veto⟩) hst)
    have HB := Lib.hid hst
    clear hst
    go_wp2_with (first
      | (refine wpList_store_atQ rfl 27 (.tmp 4) (.tmp 9) _ 0 _ _ _ #[.int .i64 many, .int .i64 need, .bool on, .int .i64 at_, .slice a n c, .bool veto] 27 R.out rfl rfl rfl rfl (Nat.le_of_ble_eq_true rfl) (by kernel_rfl) (by kernel_rfl) (by kernel_rfl) ?_; intro V hgV hRV; have HGV := Lib.hid hgV; have HRV := Lib.hid hRV; clear hgV hRV))
    (try simp only [Exit.inBlock, Exit.then])
    refine bodyPost_ret (ret_court2 rfl _ rfl HRV.out) rfl ?_
    exact got2 ⟨_, _, rfl, O.out.keptC R.out (by decide) HGV.out, grown_new GW.out (by omega) HGV.out, gweak (grown_new G.out (by omega) HGV.out) _⟩ HP.out HB.out
  | true =>
    have HP := Lib.hid (veS_new (C := ⟨many, need, on, at_, n, f, veto⟩) hst)
    have HB := Lib.hid hst
    clear hst
    go_wp2_with (first
      | (refine wpList_store_atQ rfl 4 (.tmp 11) (.const (.bool true)) _ 5 _ _ _ #[.int .i64 many, .int .i64 need, .bool on, .int .i64 at_, .slice a n c, .bool true] 27 K.out rfl rfl rfl rfl (Nat.le_of_ble_eq_true rfl) (by kernel_rfl) (by kernel_rfl) (by kernel_rfl) ?_; intro V hgV hRV; have R2 := Lib.hid (R.out.kept hgV (by intro e; have e := Option.some.inj e; omega)); have G2 := Lib.hid (grown_new GW.out (by omega) hgV); have H2 := Lib.hid (grown_new G.out (by omega) hgV); have OW2 := Lib.hid (O.out.keptC K.out (by decide) hgV); have K2 := Lib.hid hRV; clear hgV hRV k0 k1 k2 k3 k4 k5 f0 f1 f2 f3 f4 f5; obtain ⟨k0, k1, k2, k3, k4, k5, f0, f1, f2, f3, f4, f5⟩ := c6_of K2.out)
      | (refine wpList_store_atQ rfl 27 (.tmp 4) (.tmp 12) _ 0 _ _ _ #[.int .i64 many, .int .i64 need, .bool on, .int .i64 at_, .slice a n c, .bool true] 27 R2.out rfl rfl rfl rfl (Nat.le_of_ble_eq_true rfl) (by kernel_rfl) (by kernel_rfl) (by kernel_rfl) ?_; intro V4 hgV hRV; have HGV := Lib.hid hgV; have HRV := Lib.hid hRV; clear hgV hRV))
    (try simp only [Exit.inBlock, Exit.then])
    refine bodyPost_ret (ret_court2 rfl _ rfl HRV.out) rfl ?_
    exact got2 ⟨_, _, rfl, OW2.out.keptC R2.out (by decide) HGV.out, grown_new G2.out (by omega) HGV.out, gweak (grown_new H2.out (by omega) HGV.out) _⟩ HP.out HB.out
end Ct
end Go.Proofs.Ytbfmigmhmjgdgaa
