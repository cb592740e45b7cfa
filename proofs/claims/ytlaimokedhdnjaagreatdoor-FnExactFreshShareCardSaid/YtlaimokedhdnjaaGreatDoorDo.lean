/-
  Which deals the model holds for well formed; who complains about a deal: the program's and the model's lists.
-/
import Derived.Test.YtlaimokedhdnjaaGreatDoorDj
import Derived.Test.YtlaimokedhdnjaaGreatDoorCe
import Derived.Deep.RegionHeld3
import Derived.Test.YtlaimokedhdnjaaGreatDoorPe
import Derived.Test.YtlaimokedhdnjaaGreatDoorMem
namespace Go.Proofs.YtlaimokedhdnjaaGreatDoor
namespace Con
open Go.RowKit Alg Mem
set_option linter.unusedVariables false

/-- Who of the first k complains. -/
def badl (g : Nat → Bool) : Nat → List Int
  | 0 => []
  | k + 1 => badl g k ++ (if g k then [] else [(k : Int) + 1])
theorem badl_len (g : Nat → Bool) (k : Nat) : (badl g k).length ≤ k := by
  induction k with
  | zero => simp [badl]
  | succ k ih => simp only [badl, List.length_append]; split <;> simp <;> omega
theorem badl_yes {g : Nat → Bool} {k : Nat} (h : g k = true) : badl g (k + 1) = badl g k := by simp [badl, h]
theorem badl_no {g : Nat → Bool} {k : Nat} (h : g k = false) : badl g (k + 1) = badl g k ++ [(k : Int) + 1] := by simp [badl, h]
def bfit (n1 : Nat) (z1 z2 : Nat → Int) (k : Nat) : Bool := cfz n1 z1 ((k : Int) + 1) (z2 k)
def bads (f : Int) (n1 : Nat) (z1 : Nat → Int) (n2 : Nat) (z2 : Nat → Int) (need many : Int) : List Int := if dlF f n1 z1 n2 z2 need many then badl (bfit n1 z1 z2) n2 else []
theorem bads_no {f : Int} {n1 : Nat} {z1 : Nat → Int} {n2 : Nat} {z2 : Nat → Int} {need many : Int} (h : dlF f n1 z1 n2 z2 need many = false) : bads f n1 z1 n2 z2 need many = [] := by simp [bads, h]
theorem bads_yes {f : Int} {n1 : Nat} {z1 : Nat → Int} {n2 : Nat} {z2 : Nat → Int} {need many : Int} (h : dlF f n1 z1 n2 z2 need many = true) : bads f n1 z1 n2 z2 need many = badl (bfit n1 z1 z2) n2 := by simp [bads, h]
theorem bads_len (f : Int) (n1 : Nat) (z1 : Nat → Int) (n2 : Nat) (z2 : Nat → Int) (need many : Int) : (bads f n1 z1 n2 z2 need many).length ≤ n2 := by
  unfold bads; split
  · exact badl_len _ _
  · simp

/-- The numbers of a list, by the index. -/
def li (l : List Int) (j : Nat) : Int := l.getD j 0
theorem li_app {l : List Int} {n : Int} {j : Nat} (h : j < l.length) : li (l ++ [n]) j = li l j := by simp [li, List.getElem?_append_left h]
theorem li_last (l : List Int) (n : Int) : li (l ++ [n]) l.length = n := by simp [li]
theorem vals_congr {z y : Nat → Int} {k : Nat} (h : ∀ j, j < k → z j = y j) : vals z k = vals y k := by
  unfold vals; apply List.map_congr_left; intro j hj; rw [h j (List.mem_range.1 hj)]
/-- A slice of the call's own that may be nil. -/
def Lst (w : World) (lo : Nat) (v : Value) (l : List Int) : Prop :=
  (v = .slice none 0 0 ∧ l = []) ∨ ∃ b cap, v = .slice (some ⟨b, 0, none⟩) l.length cap ∧ Row w lo 3 b l.length cap (li l)
theorem Lst.kept {w w' : World} {lo : Nat} {v : Value} {l : List Int} (h : Lst w lo v l) (hg : w.grownBy w' none) : Lst w' lo v l := by
  rcases h with h | ⟨b, c, hv, hr⟩
  · exact .inl h
  · exact .inr ⟨b, c, hv, hr.keptN hg⟩
theorem Lst.alloc {w : World} {lo : Nat} {v : Value} {l : List Int} (h : Lst w lo v l) (o : Obj) : Lst (w.alloc o) lo v l := h.kept (Draw.grown_alloc _ _ _)
theorem Lst.owns {w : World} {lo : Nat} {v : Value} {l : List Int} (h : Lst w lo v l) : w.ownsRow lo 3 1 v l.length (vals (li l) l.length) := by
  rcases h with ⟨rfl, rfl⟩ | ⟨b, c, rfl, hr⟩
  · exact ⟨by simp [vals], .inl ⟨rfl, rfl⟩⟩
  · exact hr.owns
theorem Lst.slice {w : World} {lo : Nat} {v : Value} {l : List Int} (h : Lst w lo v l) : ∃ a c, v = .slice a l.length c ∧ Ints w a l.length (li l) ∧ l.length ≤ c ∧ c ≤ maxLen := by
  rcases h with ⟨rfl, rfl⟩ | ⟨b, c, rfl, hr⟩
  · exact ⟨none, 0, rfl, .inl rfl, Nat.le_refl _, Nat.zero_le _⟩
  · exact ⟨_, c, rfl, hr.ints, hr.le, hr.most⟩
theorem Lst.app {w1 : World} {lo : Nat} {v' : Value} {l : List Int} {n : Int} (h : w1.ownsRow lo 3 1 v' (l.length + 1) (vals (li l) l.length ++ [.int .i64 n])) : Lst w1 lo v' (l ++ [n]) := by
  rw [vals_congr (y := li (l ++ [n])) fun j hj => (li_app hj).symm] at h
  obtain ⟨b, cap, hv, hr⟩ := app_row h (li_last l n).symm
  exact .inr ⟨b, cap, by rw [hv]; simp, by simpa using hr⟩
theorem Lst.app_grown {w wr w1 : World} {o : Obj} {v : Value} {l : List Int} (h : Lst wr w.heap.size v l) (hg : w.grownBy wr none) (hk : (wr.alloc o).grownBy w1 v.ownBlock) : w.grownBy w1 none := by
  rcases h with ⟨rfl, rfl⟩ | ⟨b, c, rfl, hr⟩
  · exact gtr (gtr hg (Draw.grown_alloc _ _ _)) hk
  · exact Mem.app_grown hg hr.from_ hk
theorem gtr' {a b c : World} {r : Option Nat} (h : a.grownBy b r) (k : b.grownBy c r) : a.grownBy c r := Draw.grown_trans h k
theorem Dl.keptB {w w' : World} {b : Nat} {f : Int} {s1 s2 : Value} {r : Option Nat} (h : Dl w b f s1 s2) (hg : w.grownBy w' r) (hne : some b ≠ r) : Dl w' b f s1 s2 := by
  have hb := hg.block b h.lt hne
  exact ⟨Nat.lt_of_lt_of_le h.lt hg.size, by rw [World.cell?_of_block (w := w) hb]; exact h.c0, by rw [World.cell?_of_block (w := w) hb]; exact h.c1, by rw [World.cell?_of_block (w := w) hb]; exact h.c2⟩
theorem Lst.lower {w : World} {lo lo' : Nat} {v : Value} {l : List Int} (h : Lst w lo v l) (hl : lo' ≤ lo) : Lst w lo' v l := by
  rcases h with h | ⟨b, c, hv, hr⟩
  · exact .inl h
  · exact .inr ⟨b, c, hv, hr.lower hl⟩

theorem sdealok (w : World) (f : Int) (a1 : Option Addr) (n1 c1 : Nat) (z1 : Nat → Int) (a2 : Option Addr) (n2 c2 : Nat) (z2 : Nat → Int) (need many : Int) (hA : Ints w a1 n1 z1) (hB : Ints w a2 n2 z2) (hl1 : n1 ≤ 2000000) (hl2 : n2 ≤ 2000000) :
    Calls Tryz.prog 37 #[.agg #[.int .i64 f, .slice a1 n1 c1, .slice a2 n2 c2], .int .i64 need, .int .i64 many] w fun e w' => e = .returned (.bool (dlF f n1 z1 n2 z2 need many)) ∧ w.grownBy w' none := by
  have HA := Lib.hid (hA.kept (Draw.grown_alloc w (.cells #[.int .i64 f, .slice a1 n1 c1, .slice a2 n2 c2] 49) none)); have HB := Lib.hid (hB.kept (Draw.grown_alloc w (.cells #[.int .i64 f, .slice a1 n1 c1, .slice a2 n2 c2] 49) none)); clear hA hB
  go_enter Tryz.func37, Tryz.ntmps37
  go_wp2
  go_loop [7] (fun i => ∃ k : Nat, k ≤ n2 ∧ i = .int .i64 k ∧ okz z2 k = true) (fun i => n2 - (intOf i).toNat)
  case atStart => exact ⟨0, by omega, rfl, rfl⟩
  case round =>
    obtain ⟨k, hk, rfl, hz⟩ := hrel
    have HZ := Lib.hid hz; clear hz
    by_cases hlt : k < n2
    · obtain ⟨b, off, rfl, hb, hc⟩ := HB.out.ptr (by omega)
      have hcx := hc k hlt
      clear hc
      cases hf : fok (z2 k) with
      | false =>
        have HR := Lib.hid (dl_s (f := f) (n1 := n1) (z1 := z1) (need := need) (many := many) (show shF many n2 z2 = false by unfold shF; rw [okz_no hlt hf, Bool.and_false]))
        go_wp2_with (go_at_call 29; refine (sok_no _ _ (by assumption)).mono ?_; rintro e w' ⟨rfl, rfl⟩)
        go_ret
        exact ⟨ret_b HR.out.symm, Draw.grown_alloc _ _ _⟩
      | true =>
        have HR := Lib.hid (okz_next HZ.out hf)
        go_wp2_with (go_at_call 29; refine (sok_yes _ _ (by assumption)).mono ?_; rintro e w' ⟨rfl, rfl⟩)
        go_round
        case rel => exact ⟨k + 1, by omega, by go_num, HR.out⟩
        case measure => simp [intOf]; omega
    · obtain rfl : k = n2 := by omega
      cases hc : crewF need many with
      | false =>
        have HR := Lib.hid (dl_c (f := f) (n1 := n1) (z1 := z1) (n2 := k) (z2 := z2) (need := need) (many := many) hc)
        go_wp2_with fail
        refine (screw _ _ _).mono ?_
        rintro e w' ⟨rfl, rfl⟩
        rw [hc]
        go_wp2
        go_ret
        exact ⟨ret_b HR.out.symm, Draw.grown_alloc _ _ _⟩
      | true =>
        by_cases hf : 1 ≤ f ∧ f ≤ 5
        · cases hk : cokz n1 z1 with
          | false =>
            have HR := Lib.hid (dl_k (f := f) (n1 := n1) (z1 := z1) (n2 := k) (z2 := z2) (need := need) (many := many) hk)
            go_wp2_with fail
            refine (screw _ _ _).mono ?_
            rintro e w' ⟨rfl, rfl⟩
            rw [hc]
            go_wp2_with fail
            refine (s6in_yes _ _ _ _ hf.1 hf.2).mono ?_
            rintro e w' ⟨rfl, rfl⟩
            go_wp2_with fail
            refine (scok _ _ _ _ z1 HA.out (by omega)).mono ?_
            rintro e w' ⟨rfl, rfl⟩
            rw [hk]
            go_wp2
            go_ret
            exact ⟨ret_b HR.out.symm, Draw.grown_alloc _ _ _⟩
          | true =>
            by_cases hn : (n1 : Int) = need
            · by_cases hm : (k : Int) = many
              · have HR := Lib.hid (show dlF f n1 z1 k z2 need many = true from dl_iff.2 ⟨hf, crew_iff.1 hc, ⟨hn, hk⟩, hm, HZ.out⟩)
                have hn' : ((n1 : Int) == need) = true := by simpa using hn
                have hm' : ((k : Int) == many) = true := by simpa using hm
                go_wp2_with fail
                refine (screw _ _ _).mono ?_
                rintro e w' ⟨rfl, rfl⟩
                rw [hc]
                go_wp2_with fail
                refine (s6in_yes _ _ _ _ hf.1 hf.2).mono ?_
                rintro e w' ⟨rfl, rfl⟩
                go_wp2_with fail
                refine (scok _ _ _ _ z1 HA.out (by omega)).mono ?_
                rintro e w' ⟨rfl, rfl⟩
                rw [hk]
                clear hn hm
                go_wp2
                go_ret
                exact ⟨ret_b HR.out.symm, Draw.grown_alloc _ _ _⟩
              · have HR := Lib.hid (dl_s (f := f) (n1 := n1) (z1 := z1) (n2 := k) (z2 := z2) (need := need) (many := many) (show shF many k z2 = false by simp [shF, hm]))
                have hn' : ((n1 : Int) == need) = true := by simpa using hn
                have hm' : ((k : Int) == many) = false := by simpa using hm
                go_wp2_with fail
                refine (screw _ _ _).mono ?_
                rintro e w' ⟨rfl, rfl⟩
                rw [hc]
                go_wp2_with fail
                refine (s6in_yes _ _ _ _ hf.1 hf.2).mono ?_
                rintro e w' ⟨rfl, rfl⟩
                go_wp2_with fail
                refine (scok _ _ _ _ z1 HA.out (by omega)).mono ?_
                rintro e w' ⟨rfl, rfl⟩
                rw [hk]
                clear hn hm
                go_wp2
                go_ret
                exact ⟨ret_b HR.out.symm, Draw.grown_alloc _ _ _⟩
            · have HR := Lib.hid (dl_n (f := f) (n1 := n1) (z1 := z1) (n2 := k) (z2 := z2) (need := need) (many := many) hn)
              have hn' : ((n1 : Int) == need) = false := by simpa using hn
              go_wp2_with fail
              refine (screw _ _ _).mono ?_
              rintro e w' ⟨rfl, rfl⟩
              rw [hc]
              go_wp2_with fail
              refine (s6in_yes _ _ _ _ hf.1 hf.2).mono ?_
              rintro e w' ⟨rfl, rfl⟩
              go_wp2_with fail
              refine (scok _ _ _ _ z1 HA.out (by omega)).mono ?_
              rintro e w' ⟨rfl, rfl⟩
              rw [hk]
              clear hn
              go_wp2
              go_ret
              exact ⟨ret_b HR.out.symm, Draw.grown_alloc _ _ _⟩
        · have HR := Lib.hid (dl_d (f := f) (n1 := n1) (z1 := z1) (n2 := k) (z2 := z2) (need := need) (many := many) (show deF f = false from decide_eq_false hf))
          go_wp2_with fail
          refine (screw _ _ _).mono ?_
          rintro e w' ⟨rfl, rfl⟩
          rw [hc]
          go_wp2_with fail
          refine (s6in_no _ _ _ _ hf).mono ?_
          rintro e w' ⟨rfl, rfl⟩
          go_wp2
          go_ret
          exact ⟨ret_b HR.out.symm, Draw.grown_alloc _ _ _⟩

set_option maxRecDepth 100000 in
set_option maxHeartbeats 2000000 in
theorem idealbad (w : World) (f : Int) (a1 : Option Addr) (n1 c1 : Nat) (z1 : Nat → Int) (a2 : Option Addr) (n2 c2 : Nat) (z2 : Nat → Int) (need many : Int) (hA : Ints w a1 n1 z1) (hB : Ints w a2 n2 z2) (hl1 : n1 ≤ 2000000) (hl2 : n2 ≤ 2000000) (a0 : Addr) (hv : Sent w a0) :
    Calls Tryz.prog 49 #[.agg #[.int .i64 f, .slice a1 n1 c1, .slice a2 n2 c2], .int .i64 need, .int .i64 many] w fun e w' => ∃ v, e = .returned v ∧ Lst w' w.heap.size v (bads f n1 z1 n2 z2 need many) ∧ w.grownBy w' none := by
  have HG0 := Lib.hid (Draw.grown_alloc w (.cells #[.int .i64 f, .slice a1 n1 c1, .slice a2 n2 c2] 49) none)
  have HA := Lib.hid (hA.kept HG0.out); have HB := Lib.hid (hB.kept HG0.out); have HV := Lib.hid (hv.kept HG0.out); clear hA hB hv
  have HD := Lib.hid (Dl.new w f (.slice a1 n1 c1) (.slice a2 n2 c2) 49)
  obtain ⟨i0, hi, hz0, hz1, hz2⟩ := info_parts info_int
  cases hp : dlF f n1 z1 n2 z2 need many with
  | false =>
    have HR := Lib.hid (bads_no hp)
    go_enter Tryz.func49, Tryz.ntmps49
    go_wp2_with fail
    refine (idealok _ f _ _ _ z1 _ _ _ z2 _ _ HA.out HB.out hl1 hl2 a0 HV.out).mono ?_
    rintro e w1 ⟨rfl, hg⟩
    have HG := Lib.hid (gtr HG0.out hg); clear hg
    rw [hp]
    go_wp2
    go_ret
    exact ⟨_, rfl, .inl ⟨rfl, HR.out⟩, HG.out⟩
  | true =>
    have HR := Lib.hid (bads_yes hp)
    have hmm : n2 ≤ 5 := by have := dl_iff.1 hp; omega
    go_enter Tryz.func49, Tryz.ntmps49
    go_wp2_with fail
    refine (idealok _ f _ _ _ z1 _ _ _ z2 _ _ HA.out HB.out hl1 hl2 a0 HV.out).mono ?_
    rintro e w1 ⟨rfl, hg⟩
    have HG := Lib.hid (gtr HG0.out hg); have HA1 := Lib.hid (HA.out.kept hg); have HB1 := Lib.hid (HB.out.kept hg); have HD1 := Lib.hid (HD.out.kept hg); clear hg
    rw [hp]
    obtain ⟨_, k0, k1, k2⟩ := HD1.out
    go_wp2
    go_loopw [7, 19] (fun v i wr => ∃ k : Nat, k ≤ n2 ∧ i = .int .i64 k ∧ Lst wr w1.heap.size v (badl (bfit n1 z1 z2) k) ∧ w1.grownBy wr none) (fun _ i _ => n2 - (intOf i).toNat)
    case atStart => exact ⟨0, by omega, rfl, .inl ⟨rfl, rfl⟩, Draw.grown_refl _ _⟩
    case round =>
      obtain ⟨k, hk, rfl, hL, hg⟩ := hrel
      have HL := Lib.hid hL; have HGr := Lib.hid hg; clear hL hg k0 k1 k2
      obtain ⟨_, k0, k1, k2⟩ := HD1.out.kept HGr.out
      have hlen := badl_len (bfit n1 z1 z2) k
      by_cases hlt : k < n2
      · obtain ⟨b, off, rfl, hb, hc⟩ := (HB1.out.kept HGr.out).ptr (by omega)
        have hcx := hc k hlt
        clear hc
        cases hf : cfz n1 z1 ((k : Int) + 1) (z2 k) with
        | true =>
          have HE := Lib.hid (badl_yes (g := bfit n1 z1 z2) (k := k) hf)
          go_wp2_with (go_at_call 36; refine (icfit _ _ _ _ z1 _ _ (HA1.out.kept HGr.out) (by omega)).mono ?_; rintro e w2 ⟨rfl, hg2⟩; rw [hf]; have HG2 := Lib.hid hg2; clear hg2)
          go_roundw
          case rel => exact ⟨k + 1, by omega, by go_num, by rw [HE.out]; exact HL.out.kept HG2.out, gtr HGr.out HG2.out⟩
          case measure => simp [intOf]; omega
        | false =>
          have HE := Lib.hid (badl_no (g := bfit n1 z1 z2) (k := k) hf)
          go_wp2_with fail
          refine (icfit _ _ _ _ z1 _ _ (HA1.out.kept HGr.out) (by omega)).mono ?_
          rintro e w2 ⟨rfl, hg2⟩
          rw [hf]
          have HG2 := Lib.hid (gtr HGr.out hg2); have HL2 := Lib.hid (HL.out.kept hg2); clear hg2
          have hsz := HG2.out.size
          go_wp2_with (at_builtin; refine wpList_append_own _ rfl _ _ 22 rfl w1.heap.size 3 i0 (.int .i64 0) 1 8 und_ints hi hz0 hz1 hz2 rfl (by decide) _ _ (vals (li (badl (bfit n1 z1 z2) k)) (badl (bfit n1 z1 z2) k).length) rfl (HL2.out.alloc _).owns ⟨w2.heap.size, 0, none⟩ 1 1 [.int .i64 ((k : Int) + 1)] rfl rfl (cell_one_new _ _ _) (by simp [Value.oneCell']) (by unfold maxLen; omega) (by omega) (by simp; omega) ?_; intro v' w3 hown' hgrow _)
          have HL3 := Lib.hid (Lst.app hown'); have HG3 := Lib.hid (Lst.app_grown HL2.out HG2.out hgrow)
          clear hown' hgrow
          go_wp2
          go_roundw
          case rel => exact ⟨k + 1, by omega, by go_num, by rw [HE.out]; exact HL3.out, HG3.out⟩
          case measure => simp [intOf]; omega
      · obtain rfl : k = n2 := by omega
        go_wp2
        go_ret
        exact ⟨_, rfl, by rw [HR.out]; exact HL.out.lower HG.out.size, gtr HG.out HGr.out⟩

set_option maxRecDepth 100000 in
set_option maxHeartbeats 2000000 in
theorem s11bad (w : World) (f : Int) (a1 : Option Addr) (n1 c1 : Nat) (z1 : Nat → Int) (a2 : Option Addr) (n2 c2 : Nat) (z2 : Nat → Int) (need many : Int) (hA : Ints w a1 n1 z1) (hB : Ints w a2 n2 z2) (hl1 : n1 ≤ 2000000) (hl2 : n2 ≤ 2000000) (hm5 : n2 ≤ 5) (hp1 : cokz n1 z1 = true) (hp2 : okz z2 n2 = true) :
    Calls Tryz.prog 38 #[.agg #[.int .i64 f, .slice a1 n1 c1, .slice a2 n2 c2]] w (Own1 3 w (badl (bfit n1 z1 z2) n2).length (li (badl (bfit n1 z1 z2) n2))) := by
  have HA := Lib.hid hA; have HB := Lib.hid hB; clear hA hB
  have HD := Lib.hid (Dl.new w f (.slice a1 n1 c1) (.slice a2 n2 c2) 49)
  have HP := Lib.hid hp1; have HQ := Lib.hid (okz_iff.1 hp2); have HK := Lib.hid (cokz_iff.1 hp1).2.2; clear hp1 hp2
  obtain ⟨i0, hi, hz0, hz1, hz2⟩ := info_parts info_int
  have hs1 : (w.alloc (.cells #[.int .i64 f, .slice a1 n1 c1, .slice a2 n2 c2] 49)).heap.size = w.heap.size + 1 := by show (w.heap.push _).size = _; simp
  have HR0 := row_empty (w.alloc (.cells #[.int .i64 f, .slice a1 n1 c1, .slice a2 n2 c2] 49)) 3 (li [])
  rw [hs1] at HR0
  have HR0 := Lib.hid HR0
  clear hs1
  go_enter Tryz.func38, Tryz.ntmps38
  go_wp2
  go_loopw [3, 4] (fun v i wr => ∃ k b cap : Nat, k ≤ n2 ∧ v = .slice (some ⟨b, 0, none⟩) (badl (bfit n1 z1 z2) k).length cap ∧ i = .int .i64 k ∧ Row wr (w.heap.size + 1) 3 b (badl (bfit n1 z1 z2) k).length cap (li (badl (bfit n1 z1 z2) k)) ∧ Dl wr w.heap.size f (.slice a1 n1 c1) (.slice a2 n2 c2) ∧ w.grownBy wr none) (fun _ i _ => n2 - (intOf i).toNat)
  case atStart => exact ⟨0, _, 0, by omega, rfl, rfl, HR0.out, HD.out.kept (Draw.grown_alloc _ _ _), gtr (Draw.grown_alloc _ _ _) (Draw.grown_alloc _ _ _)⟩
  case round =>
    obtain ⟨k, bo, co, hk, rfl, rfl, hr, hd, hg⟩ := hrel
    have HG := Lib.hid hg; have hge := hr.from_; have HW := Lib.hid hr; have HDr := Lib.hid hd; clear hg hr hd
    obtain ⟨hlb, k0, k1, k2⟩ := HDr.out
    have hlen := badl_len (bfit n1 z1 z2) k
    by_cases hlt : k < n2
    · have hfx : fok ((k : Int) + 1) = true := fok_iff.2 (by omega)
      have hfn := HQ.out k hlt
      have hfit : cfz n1 z1 ((k : Int) + 1) (z2 k) = (gofF (z2 k) == gofF (Pol.fi (Pol.ev (fl (lz z1) n1) (Pol.cv ((k : Int) + 1))))) := by rw [cfz_in HP.out hfx hfn, catz_in HP.out hfx]
      have HX := Lib.hid hfx; have HN := Lib.hid hfn; have HF := Lib.hid hfit; clear hfx hfn hfit
      obtain ⟨b, off, rfl, hb, hc⟩ := (HB.out.kept HG.out).ptr (by omega)
      have hcx := hc k hlt
      clear hc
      cases hf : cfz n1 z1 ((k : Int) + 1) (z2 k) with
      | true =>
        have HE := Lib.hid (badl_yes (g := bfit n1 z1 z2) (k := k) hf)
        have hwr : IntKind.i64.wrap ((k : Int) + 1) = (k : Int) + 1 := by rw [IntKind.wrap_i64]; omega
        have HAd := Lib.hid ((HA.out.kept HG.out).keptB (w' := wr.drew) (fun _ _ => rfl) (Nat.le_refl _))
        go_wp2_with fail
        go_region_held3 (fun w' => w'.cell? ⟨w.heap.size, 1, none⟩ = some (.slice a1 n1 c1) ∧ w'.cell? ⟨w.heap.size, 2, none⟩ = some (.slice (some ⟨b, off, none⟩) n2 c2) ∧ w'.cell? ⟨b, off + k, none⟩ = some (.int .i64 (z2 k))) (first | exact hS2 | exact ⟨k1, k2, hcx⟩) ((go_at_call 41; (with_reducible refine (s4fit _ _ _ _ z1 _ _ HAd.out (by omega) HK.out HX.out HN.out).mono ?_); rintro e w2 ⟨rfl, hg2⟩; rw [← HF.out, hf]; have HGw := Lib.hid (show wr.grownBy w2 none from ⟨hg2.os, hg2.tape, hg2.output, hg2.size, hg2.block⟩); have HG2 := HGw; clear hg2; have hS2 : w2.cell? ⟨w.heap.size, 1, none⟩ = some (.slice a1 n1 c1) ∧ w2.cell? ⟨w.heap.size, 2, none⟩ = some (.slice (some ⟨b, off, none⟩) n2 c2) ∧ w2.cell? ⟨b, off + k, none⟩ = some (.int .i64 (z2 k)) := ⟨(HDr.out.kept HGw.out).c1, (HDr.out.kept HGw.out).c2, (World.cell?_of_block (w := wr) (HGw.out.block b hb (by simp))).trans hcx⟩))
        all_goals
          go_wp2
          go_roundw
          case rel => exact ⟨k + 1, _, _, by omega, by rw [HE.out], by go_num, by rw [HE.out]; exact HW.out.keptN HG2.out, HDr.out.kept HG2.out, gtr HG.out HG2.out⟩
          case measure => simp [intOf]; omega
      | false =>
        have HE := Lib.hid (badl_no (g := bfit n1 z1 z2) (k := k) hf)
        have hwr : IntKind.i64.wrap ((k : Int) + 1) = (k : Int) + 1 := by rw [IntKind.wrap_i64]; omega
        have HAd := Lib.hid ((HA.out.kept HG.out).keptB (w' := wr.drew) (fun _ _ => rfl) (Nat.le_refl _))
        go_wp2_with fail
        go_region_held3 (fun w' => w'.cell? ⟨w.heap.size, 1, none⟩ = some (.slice a1 n1 c1) ∧ w'.cell? ⟨w.heap.size, 2, none⟩ = some (.slice (some ⟨b, off, none⟩) n2 c2) ∧ w'.cell? ⟨b, off + k, none⟩ = some (.int .i64 (z2 k))) (first | exact hS2 | exact ⟨k1, k2, hcx⟩) ((go_at_call 41; (with_reducible refine (s4fit _ _ _ _ z1 _ _ HAd.out (by omega) HK.out HX.out HN.out).mono ?_); rintro e w2 ⟨rfl, hg2⟩; rw [← HF.out, hf]; have HGw := Lib.hid (show wr.grownBy w2 none from ⟨hg2.os, hg2.tape, hg2.output, hg2.size, hg2.block⟩); have HG2 := Lib.hid (gtr HG.out HGw.out); have HW2 := Lib.hid (HW.out.keptN HGw.out); have HD2 := Lib.hid (HDr.out.kept HGw.out); clear hg2; have hsz := HD2.out.lt; have hS2 : w2.cell? ⟨w.heap.size, 1, none⟩ = some (.slice a1 n1 c1) ∧ w2.cell? ⟨w.heap.size, 2, none⟩ = some (.slice (some ⟨b, off, none⟩) n2 c2) ∧ w2.cell? ⟨b, off + k, none⟩ = some (.int .i64 (z2 k)) := ⟨(HDr.out.kept HGw.out).c1, (HDr.out.kept HGw.out).c2, (World.cell?_of_block (w := wr) (HGw.out.block b hb (by simp))).trans hcx⟩))
        all_goals
          go_wp2_with (at_builtin; refine wpList_append_own _ rfl _ _ 22 rfl (w.heap.size + 1) 3 i0 (.int .i64 0) 1 8 und_ints hi hz0 hz1 hz2 rfl (by decide) _ _ (vals (li (badl (bfit n1 z1 z2) k)) (badl (bfit n1 z1 z2) k).length) rfl (HW2.out.alloc _).owns ⟨w2.heap.size, 0, none⟩ 1 1 [.int .i64 ((k : Int) + 1)] rfl rfl (cell_one_new _ _ _) (by simp [Value.oneCell']) (by unfold maxLen; omega) (by omega) (by simp; omega) ?_; intro v' w3 hown' hgrow _)
          rw [vals_congr (y := li (badl (bfit n1 z1 z2) k ++ [(k : Int) + 1])) fun j hj => (li_app hj).symm] at hown'
          obtain ⟨b', cap', rfl, hrow⟩ := app_row hown' (li_last _ _).symm
          have HR := Lib.hid (show Row w3 (w.heap.size + 1) 3 b' (badl (bfit n1 z1 z2) (k + 1)).length cap' (li (badl (bfit n1 z1 z2) (k + 1))) by rw [HE.out]; simpa using hrow)
          have HL := Lib.hid (show (Value.slice (some ⟨b', 0, none⟩) ((badl (bfit n1 z1 z2) k).length + 1) cap') = .slice (some ⟨b', 0, none⟩) (badl (bfit n1 z1 z2) (k + 1)).length cap' by rw [HE.out]; simp)
          have HG3 := Lib.hid (Mem.app_grown HG2.out (by omega) hgrow)
          have HD3 := Lib.hid (HD2.out.keptB (gtr' (Draw.grown_alloc _ _ _) hgrow) (by intro e; have e := Option.some.inj e; simp at e; omega))
          clear hown' hgrow hrow
          go_wp2
          go_roundw
          case rel => exact ⟨k + 1, b', cap', by omega, HL.out, by go_num, HR.out, HD3.out, HG3.out⟩
          case measure => simp [intOf]; omega
    · obtain rfl : k = n2 := by omega
      go_wp2
      go_ret
      exact ⟨_, _, rfl, HW.out.lower (by omega), HG.out⟩

end Con
end Go.Proofs.YtlaimokedhdnjaaGreatDoor
/-
  The model's deal of a polynomial.
-/

namespace Go.Proofs.YtlaimokedhdnjaaGreatDoor
namespace Con
open Go.RowKit Alg Mem Pol
set_option linter.unusedVariables false

/-- A block of memory, whole. -/
def Blk (w : World) (b : Nat) (vs : Array Value) (T : TypeId) : Prop := w.heap[b]? = some (.cells vs T (0, 0))
theorem Blk.lt {w : World} {b : Nat} {vs : Array Value} {T : TypeId} (h : Blk w b vs T) : b < w.heap.size := by
  rcases Nat.lt_or_ge b w.heap.size with h' | h'
  · exact h'
  · unfold Blk at h; simp [Array.getElem?_eq_none h'] at h
theorem Blk.new (w : World) (vs : Array Value) (T : TypeId) : Blk (w.alloc (.cells vs T)) w.heap.size vs T := by
  show (w.heap.push _)[w.heap.size]? = _; simp
theorem Blk.kept {w w' : World} {b : Nat} {vs : Array Value} {T : TypeId} {r : Option Nat} (h : Blk w b vs T) (hg : w.grownBy w' r) (hne : some b ≠ r) : Blk w' b vs T := (hg.block b h.lt hne).trans h
theorem Blk.keptN {w w' : World} {b : Nat} {vs : Array Value} {T : TypeId} (h : Blk w b vs T) (hg : w.grownBy w' none) : Blk w' b vs T := h.kept hg (by simp)
theorem Blk.set {w : World} {b : Nat} {vs : Array Value} {T : TypeId} (h : Blk w b vs T) (i : Nat) (v : Value) : Blk (w.setCell ⟨b, i, none⟩ v) b (vs.setIfInBounds i v) T := heap_setCell_same w b i vs T v h
theorem Blk.other {w : World} {b b' i : Nat} {vs : Array Value} {T : TypeId} {v : Value} (h : Blk w b vs T) (hne : b ≠ b') : Blk (w.setCell ⟨b', i, none⟩ v) b vs T := (heap_setCell_other w ⟨b', i, none⟩ b v hne).trans h
theorem Blk.cell {w : World} {b : Nat} {vs : Array Value} {T : TypeId} (h : Blk w b vs T) (i : Nat) : w.cell? ⟨b, i, none⟩ = vs[i]? := by
  unfold Blk at h; simp only [World.cell?, h]; rfl
theorem Blk.free {w : World} {b : Nat} {vs : Array Value} {T : TypeId} (h : Blk w b vs T) (i : Nat) : w.frozen? ⟨b, i, none⟩ = false := by
  unfold Blk at h; simp [World.frozen?, h]
theorem Blk.dl {w : World} {b : Nat} {f : Int} {s1 s2 : Value} {T : TypeId} (h : Blk w b #[.int .i64 f, s1, s2] T) : Dl w b f s1 s2 := ⟨h.lt, h.cell 0, h.cell 1, h.cell 2⟩
/-- What all three cells of a deal in memory hold, and that they may be written. -/
structure Blk3 (w : World) (b : Nat) (v0 v1 v2 : Value) : Prop where
  c0 : w.cell? ⟨b, 0, none⟩ = some v0
  c1 : w.cell? ⟨b, 1, none⟩ = some v1
  c2 : w.cell? ⟨b, 2, none⟩ = some v2
  f0 : w.frozen? ⟨b, 0, none⟩ = false
  f1 : w.frozen? ⟨b, 1, none⟩ = false
  f2 : w.frozen? ⟨b, 2, none⟩ = false
theorem Blk.all {w : World} {b : Nat} {v0 v1 v2 : Value} {T : TypeId} (h : Blk w b #[v0, v1, v2] T) : Blk3 w b v0 v1 v2 := ⟨h.cell 0, h.cell 1, h.cell 2, h.free 0, h.free 1, h.free 2⟩

theorem Lst.own_ne {w : World} {lo B : Nat} {v : Value} {l : List Int} (h : Lst w lo v l) (hB : B < lo) : some B ≠ v.ownBlock := by
  rcases h with ⟨rfl, rfl⟩ | ⟨b, c, rfl, hr⟩
  · intro e; cases e
  · intro e; have e := Option.some.inj e; have := hr.from_; simp at e; omega
theorem Lst.keptB {w w' : World} {lo B : Nat} {v : Value} {l : List Int} (h : Lst w lo v l) (hg : w.grownBy w' (some B)) (hB : B < lo) : Lst w' lo v l := by
  rcases h with h | ⟨b, c, hv, hr⟩
  · exact .inl h
  · exact .inr ⟨b, c, hv, hr.kept hg (by intro e; have e := Option.some.inj e; have := hr.from_; omega)⟩
theorem size_deal : (Tryz.prog.info? 49).map (·.size) = some 3 := by kernel_rfl
theorem ret_deal {fn : Func} {p : Tmp} (h : fn.results = #[.cell p 49]) (tmps : Array Value) {w : World} {b : Nat} {v0 v1 v2 : Value} {T : TypeId} (hp : tmps.getD p undef = .pointer (some ⟨b, 0, none⟩)) (hb : Blk w b #[v0, v1, v2] T) :
    (results fn tmps).run Tryz.prog w = .ok (.agg #[v0, v1, v2]) w :=
  results_cell_row h tmps w b T #[v0, v1, v2] (0, 0) _ hp hb Tryz.underlying49 rfl size_deal
/-- The shares that a polynomial gives. -/
def shl (len : Nat) (z : Nat → Int) (k : Nat) : List Int := (List.range k).map fun (i : Nat) => fi (ev (fl z len) (cv ((i : Int) + 1)))
theorem shl_len (len : Nat) (z : Nat → Int) (k : Nat) : (shl len z k).length = k := by simp [shl]
theorem shl_succ (len : Nat) (z : Nat → Int) (k : Nat) : shl len z (k + 1) = shl len z k ++ [fi (ev (fl z len) (cv ((k : Int) + 1)))] := by simp [shl, List.range_succ]
/-- What a deal of a polynomial leaves: two rows of its own, that of what is shown ahead of that of the shares. -/
def DealOf (w : World) (f : Int) (m len : Nat) (z : Nat → Int) (e : Ending) (w' : World) : Prop :=
  ∃ (b1 c1 B : Nat) (v : Value), e = .returned (.agg #[.int .i64 f, .slice (some ⟨b1, 0, none⟩) len c1, v]) ∧ w.heap.size ≤ B ∧ b1 < B ∧ Row w' w.heap.size 3 b1 len c1 (gz z) ∧ Lst w' B v (shl len z m) ∧ w.grownBy w' none
theorem own_list {w : World} {lo : Nat} {v : Value} {l : List Int} {X : Int} {w3 : World} {v' : Value} (h : w3.ownsRow lo 3 1 v' (l.length + 1) (vals (li l) l.length ++ [.int .i64 X])) :
    ∃ b c, v' = .slice (some ⟨b, 0, none⟩) (l.length + 1) c ∧ Row w3 lo 3 b (l ++ [X]).length c (li (l ++ [X])) := by
  rw [vals_congr (y := li (l ++ [X])) fun j hj => (li_app hj).symm] at h
  obtain ⟨b, c, hv, hr⟩ := app_row h (li_last l X).symm
  exact ⟨b, c, hv, by simpa using hr⟩

end Con
end Go.Proofs.YtlaimokedhdnjaaGreatDoor
/-
  How the model draws a deal, a committee, and both.
-/

namespace Go.Proofs.YtlaimokedhdnjaaGreatDoor
namespace Draw
open Go.RowKit Alg Mem Con
set_option linter.unusedVariables false

/-- The deal is stored into the place of the result. -/
def stored (wr : World) (D0 : Nat) (v0 v1 v2 : Value) : World := ((wr.setCell ⟨D0, 0, none⟩ v0).setCell ⟨D0, 1, none⟩ v1).setCell ⟨D0, 2, none⟩ v2
theorem shl_ok {len : Nat} {z : Nat → Int} {m j : Nat} (h : j < m) : fok (li (shl len z m) j) = true := by
  have e : li (shl len z m) j = Pol.fi (Pol.ev (fl z len) (Pol.cv ((j : Int) + 1))) := by simp [li, shl, h]
  rw [e]; exact Pol.fi_ok _
end Draw
end Go.Proofs.YtlaimokedhdnjaaGreatDoor
/-
  How the model draws a deal that may be spoilt, with how many are needed, and of how many.
-/

namespace Go.Proofs.YtlaimokedhdnjaaGreatDoor
namespace Draw
open Go.RowKit Alg Mem Con
set_option linter.unusedVariables false

theorem ret_deal3 {fn : Func} {p u v : Tmp} (h : fn.results = #[.cell p 49, .tmp u, .tmp v]) (tmps : Array Value) {w : World} {b : Nat} {v0 v1 v2 : Value} {T : TypeId} (hp : tmps.getD p undef = .pointer (some ⟨b, 0, none⟩)) (hb : Blk w b #[v0, v1, v2] T) :
    (results fn tmps).run Tryz.prog w = .ok (.tuple #[.agg #[v0, v1, v2], tmps.getD u undef, tmps.getD v undef]) w := by
  have hp' : tmps[p]?.getD undef = .pointer (some ⟨b, 0, none⟩) := by simpa using hp
  simp [results, h, hp', asAddr, run_loadVar_row w b T 49 #[v0, v1, v2] (0, 0) _ hb Tryz.underlying49 rfl size_deal, Result.andThen]
/-- What a function leaves that draws a deal and two numbers. -/
def GotD (w : World) (k1 k2 : Nat) (e : Ending) (w' : World) : Prop :=
  ∃ (f : Int) (b1 n c1 : Nat) (z1 : Nat → Int) (b2 m c2 : Nat) (z2 : Nat → Int) (need many : Int), e = .returned (.tuple #[.agg #[.int .i64 f, .slice (some ⟨b1, 0, none⟩) n c1, .slice (some ⟨b2, 0, none⟩) m c2], .int .i64 need, .int .i64 many]) ∧ n ≤ k1 ∧ m ≤ k2 ∧ n ≤ c1 ∧ c1 ≤ maxLen ∧ m ≤ c2 ∧ c2 ≤ maxLen ∧
    1 ≤ need ∧ need ≤ 5 ∧ 1 ≤ many ∧ many ≤ 5 ∧ Ints w' (some ⟨b1, 0, none⟩) n z1 ∧ Ints w' (some ⟨b2, 0, none⟩) m z2 ∧ w.grownBy w' none
end Draw
end Go.Proofs.YtlaimokedhdnjaaGreatDoor
/-
  The words of the exact laws that take a deal: its size, the deal anew, whether two deals read alike, and a deal marked.
-/

namespace Go.Proofs.YtlaimokedhdnjaaGreatDoor
namespace Con
open Go.RowKit Alg Mem
set_option linter.unusedVariables false

theorem szint_yes (w : World) (a : Option Addr) (len cap : Nat) (left : Int) (h1 : left ≤ 2000000) (h : (len : Int) ≤ left) :
    Calls Tryz.prog 14 #[.slice a len cap, .int .i64 left] w fun e w' => e = .returned (.int .i64 (left - (len : Int))) ∧ w = w' := by
  have hlt : ¬ left - (len : Int) < 0 := by omega
  go_enter Tryz.func14, Tryz.ntmps14
  go_wp2
  go_ret
  exact ⟨rfl, rfl⟩
theorem szint_no (w : World) (a : Option Addr) (len cap : Nat) (left : Int) (h0 : 0 ≤ left) (h1 : left ≤ 2000000) (hl : len ≤ maxLen) (h : left < (len : Int)) :
    Calls Tryz.prog 14 #[.slice a len cap, .int .i64 left] w fun e w' => e = .returned (.int .i64 (-1)) ∧ w = w' := by
  unfold maxLen at hl
  have hlt : left - (len : Int) < 0 := by omega
  go_enter Tryz.func14, Tryz.ntmps14
  go_wp2
  go_ret
  exact ⟨rfl, rfl⟩
theorem szdeal_yes (w : World) (f : Int) (a1 : Option Addr) (n1 c1 : Nat) (a2 : Option Addr) (n2 c2 : Nat) (left : Int) (h1 : left ≤ 2000000) (hl : (n1 : Int) + (n2 : Int) ≤ left) :
    Calls Tryz.prog 15 #[.agg #[.int .i64 f, .slice a1 n1 c1, .slice a2 n2 c2], .int .i64 left] w fun e w' => e = .returned (.int .i64 (left - (n1 : Int) - (n2 : Int))) ∧ w.grownBy w' none := by
  have hx : ¬ left < (n1 : Int) := by omega
  have hx' : ¬ left - (n1 : Int) < 0 := by omega
  have hy : ¬ left - (n1 : Int) < (n2 : Int) := by omega
  have hy' : ¬ left - (n1 : Int) - (n2 : Int) < 0 := by omega
  go_enter Tryz.func15, Tryz.ntmps15
  go_wp2_with fail
  refine (szint_yes _ a1 n1 c1 left (by omega) (by omega)).mono ?_
  rintro e w' ⟨rfl, rfl⟩
  go_wp2_with fail
  refine (szint_yes _ a2 n2 c2 (left - (n1 : Int)) (by omega) (by omega)).mono ?_
  rintro e w' ⟨rfl, rfl⟩
  go_wp2
  go_ret
  exact ⟨rfl, Draw.grown_alloc _ _ _⟩
theorem szdeal_no (w : World) (f : Int) (a1 : Option Addr) (n1 c1 : Nat) (a2 : Option Addr) (n2 c2 : Nat) (left : Int) (h0 : 0 ≤ left) (h1 : left ≤ 2000000) (hn1 : n1 ≤ maxLen) (hn2 : n2 ≤ maxLen) (hl : left < (n1 : Int) + (n2 : Int)) :
    Calls Tryz.prog 15 #[.agg #[.int .i64 f, .slice a1 n1 c1, .slice a2 n2 c2], .int .i64 left] w fun e w' => e = .returned (.int .i64 (-1)) ∧ w.grownBy w' none := by
  by_cases hx : left < (n1 : Int)
  · go_enter Tryz.func15, Tryz.ntmps15
    go_wp2_with fail
    refine (szint_no _ a1 n1 c1 left (by omega) (by omega) hn1 hx).mono ?_
    rintro e w' ⟨rfl, rfl⟩
    go_wp2
    go_ret
    exact ⟨rfl, Draw.grown_alloc _ _ _⟩
  · have hx' : ¬ left - (n1 : Int) < 0 := by omega
    have hy : left - (n1 : Int) < (n2 : Int) := by omega
    go_enter Tryz.func15, Tryz.ntmps15
    go_wp2_with fail
    refine (szint_yes _ a1 n1 c1 left (by omega) (by omega)).mono ?_
    rintro e w' ⟨rfl, rfl⟩
    go_wp2_with fail
    refine (szint_no _ a2 n2 c2 (left - (n1 : Int)) (by omega) (by omega) hn2 (by omega)).mono ?_
    rintro e w' ⟨rfl, rfl⟩
    go_wp2
    go_ret
    exact ⟨rfl, Draw.grown_alloc _ _ _⟩
/-- A deal of the call's own: two rows, one ahead of the other. -/
def DealO (w : World) (f : Int) (n1 : Nat) (z1 : Nat → Int) (n2 : Nat) (z2 : Nat → Int) (e : Ending) (w' : World) : Prop :=
  ∃ b1 b2 : Nat, e = .returned (.agg #[.int .i64 f, .slice (some ⟨b1, 0, none⟩) n1 n1, .slice (some ⟨b2, 0, none⟩) n2 n2]) ∧ b1 < b2 ∧ Row w' w.heap.size 3 b1 n1 n1 z1 ∧ Row w' w.heap.size 3 b2 n2 n2 z2 ∧ w.grownBy w' none
theorem blk_new2 (w : World) (o1 : Obj) (vs : Array Value) (T : TypeId) : Blk ((w.alloc o1).alloc (.cells vs T)) (w.heap.size + 1) vs T := by
  have h := Blk.new (w.alloc o1) vs T
  rw [show (w.alloc o1).heap.size = w.heap.size + 1 by show (w.heap.push _).size = _; simp] at h
  exact h
theorem blk_new3 (w : World) (o1 o2 : Obj) (vs : Array Value) (T : TypeId) : Blk (((w.alloc o1).alloc o2).alloc (.cells vs T)) (w.heap.size + 1 + 1) vs T := by
  have h := Blk.new ((w.alloc o1).alloc o2) vs T
  rw [show ((w.alloc o1).alloc o2).heap.size = w.heap.size + 1 + 1 by show ((w.heap.push _).push _).size = _; simp] at h
  exact h
theorem size3 (w : World) (o1 o2 o3 : Obj) : (((w.alloc o1).alloc o2).alloc o3).heap.size = w.heap.size + 1 + 1 + 1 := by show (((w.heap.push _).push _).push _).size = _; simp
set_option maxHeartbeats 2000000 in
theorem todeal (w : World) (f : Int) (a1 : Option Addr) (n1 c1 : Nat) (z1 : Nat → Int) (a2 : Option Addr) (n2 c2 : Nat) (z2 : Nat → Int) (hA : Ints w a1 n1 z1) (hB : Ints w a2 n2 z2) (hl1 : n1 ≤ 2000000) (hl2 : n2 ≤ 2000000) :
    Calls Tryz.prog 20 #[.agg #[.int .i64 f, .slice a1 n1 c1, .slice a2 n2 c2]] w (DealO w f n1 z1 n2 z2) := by
  have HD := Lib.hid (((Dl.new w f (.slice a1 n1 c1) (.slice a2 n2 c2) 45).kept (Draw.grown_alloc _ (.cells #[.int .i64 0, .slice none 0 0, .slice none 0 0] 49) none)).kept (Draw.grown_alloc _ (.cells #[.int .i64 f, .slice none 0 0, .slice none 0 0] 49) none))
  have HR0 := Lib.hid ((blk_new2 w (.cells #[.int .i64 f, .slice a1 n1 c1, .slice a2 n2 c2] 45) #[.int .i64 0, .slice none 0 0, .slice none 0 0] 49).keptN (Draw.grown_alloc _ (.cells #[.int .i64 f, .slice none 0 0, .slice none 0 0] 49) none))
  have HO := Lib.hid (blk_new3 w (.cells #[.int .i64 f, .slice a1 n1 c1, .slice a2 n2 c2] 45) (.cells #[.int .i64 0, .slice none 0 0, .slice none 0 0] 49) #[.int .i64 f, .slice none 0 0, .slice none 0 0] 49)
  have hs3 := size3 w (.cells #[.int .i64 f, .slice a1 n1 c1, .slice a2 n2 c2] 45) (.cells #[.int .i64 0, .slice none 0 0, .slice none 0 0] 49) (.cells #[.int .i64 f, .slice none 0 0, .slice none 0 0] 49)
  have HG := Lib.hid (gtr (gtr (Draw.grown_alloc w (.cells #[.int .i64 f, .slice a1 n1 c1, .slice a2 n2 c2] 45) none) (Draw.grown_alloc _ (.cells #[.int .i64 0, .slice none 0 0, .slice none 0 0] 49) none)) (Draw.grown_alloc _ (.cells #[.int .i64 f, .slice none 0 0, .slice none 0 0] 49) none))
  have HA := Lib.hid (hA.kept HG.out); have HB := Lib.hid hB; clear hA hB
  have HS3 := Lib.hid hs3; clear hs3
  go_enter Tryz.func20, Tryz.ntmps20
  go_wp2_with fail
  refine (toInt _ _ _ _ z1 HA.out (by omega)).mono ?_
  rintro e w1 ⟨b1, rfl, hr, hg⟩
  have hge1 := hr.from_
  rw [HS3.out] at hge1
  have HD1 := Lib.hid (HD.out.kept hg); have HR1 := Lib.hid (HR0.out.keptN hg); have HO1 := Lib.hid (HO.out.keptN hg); have HG1 := Lib.hid (gtr HG.out hg)
  have HQ1 := Lib.hid (hr.lower (show w.heap.size ≤ _ by rw [HS3.out]; omega))
  clear hr hg HD HR0 HO HA HG
  obtain ⟨_, k0, k1, k2⟩ := HD1.out
  have h0l : w.heap.size + 1 + 1 < w1.heap.size := HO1.out.lt
  obtain ⟨q0, q1, q2, g0, g1, g2⟩ := HO1.out.all
  have HW2 := Lib.hid (grown_set w1 (w.heap.size + 1 + 1) 1 (.slice (some ⟨b1, 0, none⟩) n1 n1))
  have HO2 := Lib.hid (HO1.out.set 1 (.slice (some ⟨b1, 0, none⟩) n1 n1))
  have HG2 := Lib.hid (grown_new HG1.out (by omega) HW2.out)
  go_wp2_with fail
  refine (toInt _ _ _ _ z2 (HB.out.kept HG2.out) (by omega)).mono ?_
  rintro e w3 ⟨b2, rfl, hr, hg⟩
  have hge2 := hr.from_
  rw [World.size_setCell] at hge2
  have HW3 := Lib.hid hg; have HQ2 := Lib.hid (hr.lower (show w.heap.size ≤ _ by rw [World.size_setCell]; omega))
  have HO3 := Lib.hid (HO2.out.keptN hg); have HG3 := Lib.hid (gtr HG2.out hg)
  have HR3 := Lib.hid ((HR1.out.other (b' := w.heap.size + 1 + 1) (i := 1) (v := .slice (some ⟨b1, 0, none⟩) n1 n1) (by omega)).keptN hg)
  have HQ3 := Lib.hid ((HQ1.out.kept HW2.out (by intro e; have e := Option.some.inj e; omega)).keptN hg)
  have hb1 := HQ1.out.lt
  clear hr hg q0 q1 q2 g0 g1 g2 k0 k1 k2 HO1 HR1 HQ1 HG1 HD1
  have h0l' : w.heap.size + 1 + 1 < w3.heap.size := HO3.out.lt
  obtain ⟨q0, q1, q2, g0, g1, g2⟩ := (show Blk w3 (w.heap.size + 1 + 1) #[.int .i64 f, .slice (some ⟨b1, 0, none⟩) n1 n1, .slice none 0 0] 49 from HO3.out).all
  obtain ⟨r0, r1, r2, j0, j1, j2⟩ := HR3.out.all
  have HO4 := Lib.hid (HO3.out.set 2 (.slice (some ⟨b2, 0, none⟩) n2 n2))
  have HR4 := Lib.hid ((((HR3.out.other (b' := w.heap.size + 1 + 1) (i := 2) (v := .slice (some ⟨b2, 0, none⟩) n2 n2) (by omega)).set 0 (.int .i64 f)).set 1 (.slice (some ⟨b1, 0, none⟩) n1 n1)).set 2 (.slice (some ⟨b2, 0, none⟩) n2 n2))
  have g4 := grown_set w3 (w.heap.size + 1 + 1) 2 (.slice (some ⟨b2, 0, none⟩) n2 n2)
  have g5 := grown_set (w3.setCell ⟨w.heap.size + 1 + 1, 2, none⟩ (.slice (some ⟨b2, 0, none⟩) n2 n2)) (w.heap.size + 1) 0 (.int .i64 f)
  have g6 := gtr' g5 (grown_set _ (w.heap.size + 1) 1 (.slice (some ⟨b1, 0, none⟩) n1 n1))
  have g7 := gtr' g6 (grown_set _ (w.heap.size + 1) 2 (.slice (some ⟨b2, 0, none⟩) n2 n2))
  have HE := Lib.hid (grown_new (grown_new HG3.out (by omega) g4) (by omega) g7)
  have HQ4 := Lib.hid ((HQ3.out.kept g4 (by intro e; have e := Option.some.inj e; omega)).kept g7 (by intro e; have e := Option.some.inj e; omega))
  have HQ5 := Lib.hid ((HQ2.out.kept g4 (by intro e; have e := Option.some.inj e; omega)).kept g7 (by intro e; have e := Option.some.inj e; omega))
  clear g4 g5 g6 g7
  go_wp2
  (try simp only [Exit.inBlock, Exit.then])
  refine bodyPost_ret (ret_deal rfl _ rfl HR4.out) rfl ?_
  exact ⟨b1, b2, rfl, by omega, HQ4.out, HQ5.out, HE.out⟩
set_option maxHeartbeats 1000000 in
theorem eqdeal (w : World) (f : Int) (a1 a2 a3 a4 : Option Addr) (n1 c1 c3 : Nat) (z1 : Nat → Int) (n2 c2 c4 : Nat) (z2 : Nat → Int) (h1 : Ints w a1 n1 z1) (h2 : Ints w a2 n2 z2) (h3 : Ints w a3 n1 z1) (h4 : Ints w a4 n2 z2) (hl1 : n1 ≤ 2000000) (hl2 : n2 ≤ 2000000) :
    Calls Tryz.prog 24 #[.agg #[.int .i64 f, .slice a1 n1 c1, .slice a2 n2 c2], .agg #[.int .i64 f, .slice a3 n1 c3, .slice a4 n2 c4]] w fun e w' => e = .returned (.bool true) ∧ w.grownBy w' none := by
  have H0 := Lib.hid (gtr (Draw.grown_alloc w (.cells #[.int .i64 f, .slice a1 n1 c1, .slice a2 n2 c2] 49) none) (Draw.grown_alloc _ (.cells #[.int .i64 f, .slice a3 n1 c3, .slice a4 n2 c4] 49) none))
  have HD1 := Lib.hid ((Dl.new w f (.slice a1 n1 c1) (.slice a2 n2 c2) 49).kept (Draw.grown_alloc _ (.cells #[.int .i64 f, .slice a3 n1 c3, .slice a4 n2 c4] 49) none))
  have HD2 := Lib.hid (blk_new2 w (.cells #[.int .i64 f, .slice a1 n1 c1, .slice a2 n2 c2] 49) #[.int .i64 f, .slice a3 n1 c3, .slice a4 n2 c4] 49)
  have H1 := Lib.hid (h1.kept H0.out); have H2 := Lib.hid (h2.kept H0.out); have H3 := Lib.hid (h3.kept H0.out); have H4 := Lib.hid (h4.kept H0.out)
  clear h1 h2 h3 h4
  have hne : (f != f) = false := by simp
  go_enter Tryz.func24, Tryz.ntmps24
  go_wp2_with fail
  refine (eqint _ _ _ n1 _ _ z1 H1.out H3.out (by omega)).mono ?_
  rintro e w1 ⟨rfl, hg⟩
  have HG1 := Lib.hid hg; clear hg
  obtain ⟨_, k0, k1, k2⟩ := HD1.out.kept HG1.out
  obtain ⟨_, j0, j1, j2⟩ := (HD2.out.keptN HG1.out).dl
  go_wp2_with fail
  refine (eqint _ _ _ n2 _ _ z2 (H2.out.kept HG1.out) (H4.out.kept HG1.out) (by omega)).mono ?_
  rintro e w2 ⟨rfl, hg⟩
  have HG2 := Lib.hid (gtr (gtr H0.out HG1.out) hg); clear hg
  go_wp2
  go_ret
  exact ⟨rfl, HG2.out⟩
end Con
end Go.Proofs.YtlaimokedhdnjaaGreatDoor
