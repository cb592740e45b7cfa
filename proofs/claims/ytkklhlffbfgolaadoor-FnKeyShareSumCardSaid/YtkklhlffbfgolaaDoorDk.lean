/-
  Which deals the model holds for well formed; who complains about a deal: the program's and the model's lists.
-/
import Derived.Test.YtkklhlffbfgolaaDoorDj
import Derived.Test.YtkklhlffbfgolaaDoorCe
import Derived.Deep.RegionHeld3
namespace Go.Proofs.YtkklhlffbfgolaaDoor
namespace Con
open Go.RowKit Alg Mem
set_option linter.unusedVariables false

/-- Who of the first k complains. -/
def badl (g : Nat → Bool) : Nat → List Int
  | 0 => []
  | k + 1 => badl g k ++ (if g k then [] else [(k : Int) + 1])
theorem badl_len (g : Nat → Bool) (k : Nat) : (badl g k).length ≤ k := by
  induction k with
  | zero => simp [badl]
  | succ k ih => simp only [badl, List.length_append]; split <;> simp <;> omega
theorem badl_yes {g : Nat → Bool} {k : Nat} (h : g k = true) : badl g (k + 1) = badl g k := by simp [badl, h]
theorem badl_no {g : Nat → Bool} {k : Nat} (h : g k = false) : badl g (k + 1) = badl g k ++ [(k : Int) + 1] := by simp [badl, h]
def bfit (n1 : Nat) (z1 z2 : Nat → Int) (k : Nat) : Bool := cfz n1 z1 ((k : Int) + 1) (z2 k)
def bads (f : Int) (n1 : Nat) (z1 : Nat → Int) (n2 : Nat) (z2 : Nat → Int) (need many : Int) : List Int := if dlF f n1 z1 n2 z2 need many then badl (bfit n1 z1 z2) n2 else []
theorem bads_no {f : Int} {n1 : Nat} {z1 : Nat → Int} {n2 : Nat} {z2 : Nat → Int} {need many : Int} (h : dlF f n1 z1 n2 z2 need many = false) : bads f n1 z1 n2 z2 need many = [] := by simp [bads, h]
theorem bads_yes {f : Int} {n1 : Nat} {z1 : Nat → Int} {n2 : Nat} {z2 : Nat → Int} {need many : Int} (h : dlF f n1 z1 n2 z2 need many = true) : bads f n1 z1 n2 z2 need many = badl (bfit n1 z1 z2) n2 := by simp [bads, h]
theorem bads_len (f : Int) (n1 : Nat) (z1 : Nat → Int) (n2 : Nat) (z2 : Nat → Int) (need many : Int) : (bads f n1 z1 n2 z2 need many).length ≤ n2 := by
  unfold bads; split
  · exact badl_len _ _
  · simp

/-- The numbers of a list, by the index. -/
def li (l : List Int) (j : Nat) : Int := l.getD j 0
theorem li_app {l : List Int} {n : Int} {j : Nat} (h : j < l.length) : li (l ++ [n]) j = li l j := by simp [li, List.getElem?_append_left h]
theorem li_last (l : List Int) (n : Int) : li (l ++ [n]) l.length = n := by simp [li]
theorem vals_congr {z y : Nat → Int} {k : Nat} (h : ∀ j, j < k → z j = y j) : vals z k = vals y k := by
  unfold vals; apply List.map_congr_left; intro j hj; rw [h j (List.mem_range.1 hj)]
/-- A slice of the call's own that may be nil. -/
def Lst (w : World) (lo : Nat) (v : Value) (l : List Int) : Prop :=
  (v = .slice none 0 0 ∧ l = []) ∨ ∃ b cap, v = .slice (some ⟨b, 0, none⟩) l.length cap ∧ Row w lo 3 b l.length cap (li l)
theorem Lst.kept {w w' : World} {lo : Nat} {v : Value} {l : List Int} (h : Lst w lo v l) (hg : w.grownBy w' none) : Lst w' lo v l := by
  rcases h with h | ⟨b, c, hv, hr⟩
  · exact .inl h
  · exact .inr ⟨b, c, hv, hr.keptN hg⟩
theorem Lst.alloc {w : World} {lo : Nat} {v : Value} {l : List Int} (h : Lst w lo v l) (o : Obj) : Lst (w.alloc o) lo v l := h.kept (Draw.grown_alloc _ _ _)
theorem Lst.owns {w : World} {lo : Nat} {v : Value} {l : List Int} (h : Lst w lo v l) : w.ownsRow lo 3 1 v l.length (vals (li l) l.length) := by
  rcases h with ⟨rfl, rfl⟩ | ⟨b, c, rfl, hr⟩
  · exact ⟨by simp [vals], .inl ⟨rfl, rfl⟩⟩
  · exact hr.owns
theorem Lst.slice {w : World} {lo : Nat} {v : Value} {l : List Int} (h : Lst w lo v l) : ∃ a c, v = .slice a l.length c ∧ Ints w a l.length (li l) ∧ l.length ≤ c ∧ c ≤ maxLen := by
  rcases h with ⟨rfl, rfl⟩ | ⟨b, c, rfl, hr⟩
  · exact ⟨none, 0, rfl, .inl rfl, Nat.le_refl _, Nat.zero_le _⟩
  · exact ⟨_, c, rfl, hr.ints, hr.le, hr.most⟩
theorem Lst.app {w1 : World} {lo : Nat} {v' : Value} {l : List Int} {n : Int} (h : w1.ownsRow lo 3 1 v' (l.length + 1) (vals (li l) l.length ++ [.int .i64 n])) : Lst w1 lo v' (l ++ [n]) := by
  rw [vals_congr (y := li (l ++ [n])) fun j hj => (li_app hj).symm] at h
  obtain ⟨b, cap, hv, hr⟩ := app_row h (li_last l n).symm
  exact .inr ⟨b, cap, by rw [hv]; simp, by simpa using hr⟩
theorem Lst.app_grown {w wr w1 : World} {o : Obj} {v : Value} {l : List Int} (h : Lst wr w.heap.size v l) (hg : w.grownBy wr none) (hk : (wr.alloc o).grownBy w1 v.ownBlock) : w.grownBy w1 none := by
  rcases h with ⟨rfl, rfl⟩ | ⟨b, c, rfl, hr⟩
  · exact gtr (gtr hg (Draw.grown_alloc _ _ _)) hk
  · exact Mem.app_grown hg hr.from_ hk
theorem gtr' {a b c : World} {r : Option Nat} (h : a.grownBy b r) (k : b.grownBy c r) : a.grownBy c r := Draw.grown_trans h k
theorem Dl.keptB {w w' : World} {b : Nat} {f : Int} {s1 s2 : Value} {r : Option Nat} (h : Dl w b f s1 s2) (hg : w.grownBy w' r) (hne : some b ≠ r) : Dl w' b f s1 s2 := by
  have hb := hg.block b h.lt hne
  exact ⟨Nat.lt_of_lt_of_le h.lt hg.size, by rw [World.cell?_of_block (w := w) hb]; exact h.c0, by rw [World.cell?_of_block (w := w) hb]; exact h.c1, by rw [World.cell?_of_block (w := w) hb]; exact h.c2⟩
theorem Lst.lower {w : World} {lo lo' : Nat} {v : Value} {l : List Int} (h : Lst w lo v l) (hl : lo' ≤ lo) : Lst w lo' v l := by
  rcases h with h | ⟨b, c, hv, hr⟩
  · exact .inl h
  · exact .inr ⟨b, c, hv, hr.lower hl⟩


theorem sdealok (w : World) (f : Int) (a1 : Option Addr) (n1 c1 : Nat) (z1 : Nat → Int) (a2 : Option Addr) (n2 c2 : Nat) (z2 : Nat → Int) (need many : Int) (hA : Ints w a1 n1 z1) (hB : Ints w a2 n2 z2) (hl1 : n1 ≤ 2000000) (hl2 : n2 ≤ 2000000) :
    Calls Tryd.prog 18 #[.agg #[.int .i64 f, .slice a1 n1 c1, .slice a2 n2 c2], .int .i64 need, .int .i64 many] w fun e w' => e = .returned (.bool (dlF f n1 z1 n2 z2 need many)) ∧ w.grownBy w' none := by
  have HA := Lib.hid (hA.kept (Draw.grown_alloc w (.cells #[.int .i64 f, .slice a1 n1 c1, .slice a2 n2 c2] 34) none)); have HB := Lib.hid (hB.kept (Draw.grown_alloc w (.cells #[.int .i64 f, .slice a1 n1 c1, .slice a2 n2 c2] 34) none)); clear hA hB
  go_enter Tryd.func18, Tryd.ntmps18
  go_wp2
  go_loop [7] (fun i => ∃ k : Nat, k ≤ n2 ∧ i = .int .i64 k ∧ okz z2 k = true) (fun i => n2 - (intOf i).toNat)
  case atStart => exact ⟨0, by omega, rfl, rfl⟩
  case round =>
    obtain ⟨k, hk, rfl, hz⟩ := hrel
    have HZ := Lib.hid hz; clear hz
    by_cases hlt : k < n2
    · obtain ⟨b, off, rfl, hb, hc⟩ := HB.out.ptr (by omega)
      have hcx := hc k hlt
      clear hc
      cases hf : fok (z2 k) with
      | false =>
        have HR := Lib.hid (dl_s (f := f) (n1 := n1) (z1 := z1) (need := need) (many := many) (show shF many n2 z2 = false by unfold shF; rw [okz_no hlt hf, Bool.and_false]))
        go_wp2_with (go_at_call 44; refine (sok_no _ _ (by assumption)).mono ?_; rintro e w' ⟨rfl, rfl⟩)
        go_ret
        exact ⟨ret_b HR.out.symm, Draw.grown_alloc _ _ _⟩
      | true =>
        have HR := Lib.hid (okz_next HZ.out hf)
        go_wp2_with (go_at_call 44; refine (sok_yes _ _ (by assumption)).mono ?_; rintro e w' ⟨rfl, rfl⟩)
        go_round
        case rel => exact ⟨k + 1, by omega, by go_num, HR.out⟩
        case measure => simp [intOf]; omega
    · obtain rfl : k = n2 := by omega
      cases hc : crewF need many with
      | false =>
        have HR := Lib.hid (dl_c (f := f) (n1 := n1) (z1 := z1) (n2 := k) (z2 := z2) (need := need) (many := many) hc)
        go_wp2_with fail
        refine (screw _ _ _).mono ?_
        rintro e w' ⟨rfl, rfl⟩
        rw [hc]
        go_wp2
        go_ret
        exact ⟨ret_b HR.out.symm, Draw.grown_alloc _ _ _⟩
      | true =>
        by_cases hf : 1 ≤ f ∧ f ≤ 5
        · cases hk : cokz n1 z1 with
          | false =>
            have HR := Lib.hid (dl_k (f := f) (n1 := n1) (z1 := z1) (n2 := k) (z2 := z2) (need := need) (many := many) hk)
            go_wp2_with fail
            refine (screw _ _ _).mono ?_
            rintro e w' ⟨rfl, rfl⟩
            rw [hc]
            go_wp2_with fail
            refine (s6in_yes _ _ _ _ hf.1 hf.2).mono ?_
            rintro e w' ⟨rfl, rfl⟩
            go_wp2_with fail
            refine (scok _ _ _ _ z1 HA.out (by omega)).mono ?_
            rintro e w' ⟨rfl, rfl⟩
            rw [hk]
            go_wp2
            go_ret
            exact ⟨ret_b HR.out.symm, Draw.grown_alloc _ _ _⟩
          | true =>
            by_cases hn : (n1 : Int) = need
            · by_cases hm : (k : Int) = many
              · have HR := Lib.hid (show dlF f n1 z1 k z2 need many = true from dl_iff.2 ⟨hf, crew_iff.1 hc, ⟨hn, hk⟩, hm, HZ.out⟩)
                have hn' : ((n1 : Int) == need) = true := by simpa using hn
                have hm' : ((k : Int) == many) = true := by simpa using hm
                go_wp2_with fail
                refine (screw _ _ _).mono ?_
                rintro e w' ⟨rfl, rfl⟩
                rw [hc]
                go_wp2_with fail
                refine (s6in_yes _ _ _ _ hf.1 hf.2).mono ?_
                rintro e w' ⟨rfl, rfl⟩
                go_wp2_with fail
                refine (scok _ _ _ _ z1 HA.out (by omega)).mono ?_
                rintro e w' ⟨rfl, rfl⟩
                rw [hk]
                clear hn hm
                go_wp2
                go_ret
                exact ⟨ret_b HR.out.symm, Draw.grown_alloc _ _ _⟩
              · have HR := Lib.hid (dl_s (f := f) (n1 := n1) (z1 := z1) (n2 := k) (z2 := z2) (need := need) (many := many) (show shF many k z2 = false by simp [shF, hm]))
                have hn' : ((n1 : Int) == need) = true := by simpa using hn
                have hm' : ((k : Int) == many) = false := by simpa using hm
                go_wp2_with fail
                refine (screw _ _ _).mono ?_
                rintro e w' ⟨rfl, rfl⟩
                rw [hc]
                go_wp2_with fail
                refine (s6in_yes _ _ _ _ hf.1 hf.2).mono ?_
                rintro e w' ⟨rfl, rfl⟩
                go_wp2_with fail
                refine (scok _ _ _ _ z1 HA.out (by omega)).mono ?_
                rintro e w' ⟨rfl, rfl⟩
                rw [hk]
                clear hn hm
                go_wp2
                go_ret
                exact ⟨ret_b HR.out.symm, Draw.grown_alloc _ _ _⟩
            · have HR := Lib.hid (dl_n (f := f) (n1 := n1) (z1 := z1) (n2 := k) (z2 := z2) (need := need) (many := many) hn)
              have hn' : ((n1 : Int) == need) = false := by simpa using hn
              go_wp2_with fail
              refine (screw _ _ _).mono ?_
              rintro e w' ⟨rfl, rfl⟩
              rw [hc]
              go_wp2_with fail
              refine (s6in_yes _ _ _ _ hf.1 hf.2).mono ?_
              rintro e w' ⟨rfl, rfl⟩
              go_wp2_with fail
              refine (scok _ _ _ _ z1 HA.out (by omega)).mono ?_
              rintro e w' ⟨rfl, rfl⟩
              rw [hk]
              clear hn
              go_wp2
              go_ret
              exact ⟨ret_b HR.out.symm, Draw.grown_alloc _ _ _⟩
        · have HR := Lib.hid (dl_d (f := f) (n1 := n1) (z1 := z1) (n2 := k) (z2 := z2) (need := need) (many := many) (show deF f = false from decide_eq_false hf))
          go_wp2_with fail
          refine (screw _ _ _).mono ?_
          rintro e w' ⟨rfl, rfl⟩
          rw [hc]
          go_wp2_with fail
          refine (s6in_no _ _ _ _ hf).mono ?_
          rintro e w' ⟨rfl, rfl⟩
          go_wp2
          go_ret
          exact ⟨ret_b HR.out.symm, Draw.grown_alloc _ _ _⟩

set_option maxRecDepth 100000 in
set_option maxHeartbeats 2000000 in
theorem s11bad (w : World) (f : Int) (a1 : Option Addr) (n1 c1 : Nat) (z1 : Nat → Int) (a2 : Option Addr) (n2 c2 : Nat) (z2 : Nat → Int) (need many : Int) (hA : Ints w a1 n1 z1) (hB : Ints w a2 n2 z2) (hl1 : n1 ≤ 2000000) (hl2 : n2 ≤ 2000000) (hm5 : n2 ≤ 5) (hp1 : cokz n1 z1 = true) (hp2 : okz z2 n2 = true) :
    Calls Tryd.prog 61 #[.agg #[.int .i64 f, .slice a1 n1 c1, .slice a2 n2 c2]] w (Own1 3 w (badl (bfit n1 z1 z2) n2).length (li (badl (bfit n1 z1 z2) n2))) := by
  have HA := Lib.hid hA; have HB := Lib.hid hB; clear hA hB
  have HD := Lib.hid (Dl.new w f (.slice a1 n1 c1) (.slice a2 n2 c2) 34)
  have HP := Lib.hid hp1; have HQ := Lib.hid (okz_iff.1 hp2); have HK := Lib.hid (cokz_iff.1 hp1).2.2; clear hp1 hp2
  obtain ⟨i0, hi, hz0, hz1, hz2⟩ := info_parts info_int
  have hs1 : (w.alloc (.cells #[.int .i64 f, .slice a1 n1 c1, .slice a2 n2 c2] 34)).heap.size = w.heap.size + 1 := by show (w.heap.push _).size = _; simp
  have HR0 := row_empty (w.alloc (.cells #[.int .i64 f, .slice a1 n1 c1, .slice a2 n2 c2] 34)) 3 (li [])
  rw [hs1] at HR0
  have HR0 := Lib.hid HR0
  clear hs1
  go_enter Tryd.func61, Tryd.ntmps61
  go_wp2
  go_loopw [3, 4] (fun v i wr => ∃ k b cap : Nat, k ≤ n2 ∧ v = .slice (some ⟨b, 0, none⟩) (badl (bfit n1 z1 z2) k).length cap ∧ i = .int .i64 k ∧ Row wr (w.heap.size + 1) 3 b (badl (bfit n1 z1 z2) k).length cap (li (badl (bfit n1 z1 z2) k)) ∧ Dl wr w.heap.size f (.slice a1 n1 c1) (.slice a2 n2 c2) ∧ w.grownBy wr none) (fun _ i _ => n2 - (intOf i).toNat)
  case atStart => exact ⟨0, _, 0, by omega, rfl, rfl, HR0.out, HD.out.kept (Draw.grown_alloc _ _ _), gtr (Draw.grown_alloc _ _ _) (Draw.grown_alloc _ _ _)⟩
  case round =>
    obtain ⟨k, bo, co, hk, rfl, rfl, hr, hd, hg⟩ := hrel
    have HG := Lib.hid hg; have hge := hr.from_; have HW := Lib.hid hr; have HDr := Lib.hid hd; clear hg hr hd
    obtain ⟨hlb, k0, k1, k2⟩ := HDr.out
    have hlen := badl_len (bfit n1 z1 z2) k
    by_cases hlt : k < n2
    · have hfx : fok ((k : Int) + 1) = true := fok_iff.2 (by omega)
      have hfn := HQ.out k hlt
      have hfit : cfz n1 z1 ((k : Int) + 1) (z2 k) = (gofF (z2 k) == gofF (Pol.fi (Pol.ev (fl (lz z1) n1) (Pol.cv ((k : Int) + 1))))) := by rw [cfz_in HP.out hfx hfn, catz_in HP.out hfx]
      have HX := Lib.hid hfx; have HN := Lib.hid hfn; have HF := Lib.hid hfit; clear hfx hfn hfit
      obtain ⟨b, off, rfl, hb, hc⟩ := (HB.out.kept HG.out).ptr (by omega)
      have hcx := hc k hlt
      clear hc
      cases hf : cfz n1 z1 ((k : Int) + 1) (z2 k) with
      | true =>
        have HE := Lib.hid (badl_yes (g := bfit n1 z1 z2) (k := k) hf)
        have hwr : IntKind.i64.wrap ((k : Int) + 1) = (k : Int) + 1 := by rw [IntKind.wrap_i64]; omega
        have HAd := Lib.hid ((HA.out.kept HG.out).keptB (w' := wr.drew) (fun _ _ => rfl) (Nat.le_refl _))
        go_wp2_with fail
        go_region_held3 (fun w' => w'.cell? ⟨w.heap.size, 1, none⟩ = some (.slice a1 n1 c1) ∧ w'.cell? ⟨w.heap.size, 2, none⟩ = some (.slice (some ⟨b, off, none⟩) n2 c2) ∧ w'.cell? ⟨b, off + k, none⟩ = some (.int .i64 (z2 k))) (first | exact hS2 | exact ⟨k1, k2, hcx⟩) ((go_at_call 45; (with_reducible refine (s4fit _ _ _ _ z1 _ _ HAd.out (by omega) HK.out HX.out HN.out).mono ?_); rintro e w2 ⟨rfl, hg2⟩; rw [← HF.out, hf]; have HGw := Lib.hid (show wr.grownBy w2 none from ⟨hg2.os, hg2.tape, hg2.output, hg2.size, hg2.block⟩); have HG2 := HGw; clear hg2; have hS2 : w2.cell? ⟨w.heap.size, 1, none⟩ = some (.slice a1 n1 c1) ∧ w2.cell? ⟨w.heap.size, 2, none⟩ = some (.slice (some ⟨b, off, none⟩) n2 c2) ∧ w2.cell? ⟨b, off + k, none⟩ = some (.int .i64 (z2 k)) := ⟨(HDr.out.kept HGw.out).c1, (HDr.out.kept HGw.out).c2, (World.cell?_of_block (w := wr) (HGw.out.block b hb (by simp))).trans hcx⟩))
        all_goals
          go_wp2
          go_roundw
          case rel => exact ⟨k + 1, _, _, by omega, by rw [HE.out], by go_num, by rw [HE.out]; exact HW.out.keptN HG2.out, HDr.out.kept HG2.out, gtr HG.out HG2.out⟩
          case measure => simp [intOf]; omega
      | false =>
        have HE := Lib.hid (badl_no (g := bfit n1 z1 z2) (k := k) hf)
        have hwr : IntKind.i64.wrap ((k : Int) + 1) = (k : Int) + 1 := by rw [IntKind.wrap_i64]; omega
        have HAd := Lib.hid ((HA.out.kept HG.out).keptB (w' := wr.drew) (fun _ _ => rfl) (Nat.le_refl _))
        go_wp2_with fail
        go_region_held3 (fun w' => w'.cell? ⟨w.heap.size, 1, none⟩ = some (.slice a1 n1 c1) ∧ w'.cell? ⟨w.heap.size, 2, none⟩ = some (.slice (some ⟨b, off, none⟩) n2 c2) ∧ w'.cell? ⟨b, off + k, none⟩ = some (.int .i64 (z2 k))) (first | exact hS2 | exact ⟨k1, k2, hcx⟩) ((go_at_call 45; (with_reducible refine (s4fit _ _ _ _ z1 _ _ HAd.out (by omega) HK.out HX.out HN.out).mono ?_); rintro e w2 ⟨rfl, hg2⟩; rw [← HF.out, hf]; have HGw := Lib.hid (show wr.grownBy w2 none from ⟨hg2.os, hg2.tape, hg2.output, hg2.size, hg2.block⟩); have HG2 := Lib.hid (gtr HG.out HGw.out); have HW2 := Lib.hid (HW.out.keptN HGw.out); have HD2 := Lib.hid (HDr.out.kept HGw.out); clear hg2; have hsz := HD2.out.lt; have hS2 : w2.cell? ⟨w.heap.size, 1, none⟩ = some (.slice a1 n1 c1) ∧ w2.cell? ⟨w.heap.size, 2, none⟩ = some (.slice (some ⟨b, off, none⟩) n2 c2) ∧ w2.cell? ⟨b, off + k, none⟩ = some (.int .i64 (z2 k)) := ⟨(HDr.out.kept HGw.out).c1, (HDr.out.kept HGw.out).c2, (World.cell?_of_block (w := wr) (HGw.out.block b hb (by simp))).trans hcx⟩))
        all_goals
          go_wp2_with (at_builtin; refine wpList_append_own _ rfl _ _ 23 rfl (w.heap.size + 1) 3 i0 (.int .i64 0) 1 8 und_ints hi hz0 hz1 hz2 rfl (by decide) _ _ (vals (li (badl (bfit n1 z1 z2) k)) (badl (bfit n1 z1 z2) k).length) rfl (HW2.out.alloc _).owns ⟨w2.heap.size, 0, none⟩ 1 1 [.int .i64 ((k : Int) + 1)] rfl rfl (cell_one_new _ _ _) (by simp [Value.oneCell']) (by unfold maxLen; omega) (by omega) (by simp; omega) ?_; intro v' w3 hown' hgrow _)
          rw [vals_congr (y := li (badl (bfit n1 z1 z2) k ++ [(k : Int) + 1])) fun j hj => (li_app hj).symm] at hown'
          obtain ⟨b', cap', rfl, hrow⟩ := app_row hown' (li_last _ _).symm
          have HR := Lib.hid (show Row w3 (w.heap.size + 1) 3 b' (badl (bfit n1 z1 z2) (k + 1)).length cap' (li (badl (bfit n1 z1 z2) (k + 1))) by rw [HE.out]; simpa using hrow)
          have HL := Lib.hid (show (Value.slice (some ⟨b', 0, none⟩) ((badl (bfit n1 z1 z2) k).length + 1) cap') = .slice (some ⟨b', 0, none⟩) (badl (bfit n1 z1 z2) (k + 1)).length cap' by rw [HE.out]; simp)
          have HG3 := Lib.hid (Mem.app_grown HG2.out (by omega) hgrow)
          have HD3 := Lib.hid (HD2.out.keptB (gtr' (Draw.grown_alloc _ _ _) hgrow) (by intro e; have e := Option.some.inj e; simp at e; omega))
          clear hown' hgrow hrow
          go_wp2
          go_roundw
          case rel => exact ⟨k + 1, b', cap', by omega, HL.out, by go_num, HR.out, HD3.out, HG3.out⟩
          case measure => simp [intOf]; omega
    · obtain rfl : k = n2 := by omega
      go_wp2
      go_ret
      exact ⟨_, _, rfl, HW.out.lower (by omega), HG.out⟩

end Con
end Go.Proofs.YtkklhlffbfgolaaDoor
