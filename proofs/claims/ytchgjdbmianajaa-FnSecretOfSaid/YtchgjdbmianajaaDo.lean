/-
  Which deals the model holds for well formed; who complains about a deal: the program's and the model's lists.
-/
import Derived.Test.YtchgjdbmianajaaDj
import Derived.Test.YtchgjdbmianajaaCe
import Derived.Deep.RegionHeld3
import Derived.Test.YtchgjdbmianajaaPe
import Derived.Test.YtchgjdbmianajaaMem
namespace Go.Proofs.Ytchgjdbmianajaa
namespace Con
open Go.RowKit Alg Mem
set_option linter.unusedVariables false

/-- Who of the first k complains. -/
def badl (g : Nat → Bool) : Nat → List Int
  | 0 => []
  | k + 1 => badl g k ++ (if g k then [] else [(k : Int) + 1])
theorem badl_len (g : Nat → Bool) (k : Nat) : (badl g k).length ≤ k := by
  induction k with
  | zero => simp [badl]
  | succ k ih => simp only [badl, List.length_append]; split <;> simp <;> omega
theorem badl_yes {g : Nat → Bool} {k : Nat} (h : g k = true) : badl g (k + 1) = badl g k := by simp [badl, h]
theorem badl_no {g : Nat → Bool} {k : Nat} (h : g k = false) : badl g (k + 1) = badl g k ++ [(k : Int) + 1] := by simp [badl, h]
def bfit (n1 : Nat) (z1 z2 : Nat → Int) (k : Nat) : Bool := cfz n1 z1 ((k : Int) + 1) (z2 k)
def bads (f : Int) (n1 : Nat) (z1 : Nat → Int) (n2 : Nat) (z2 : Nat → Int) (need many : Int) : List Int := if dlF f n1 z1 n2 z2 need many then badl (bfit n1 z1 z2) n2 else []
theorem bads_no {f : Int} {n1 : Nat} {z1 : Nat → Int} {n2 : Nat} {z2 : Nat → Int} {need many : Int} (h : dlF f n1 z1 n2 z2 need many = false) : bads f n1 z1 n2 z2 need many = [] := by simp [bads, h]
theorem bads_yes {f : Int} {n1 : Nat} {z1 : Nat → Int} {n2 : Nat} {z2 : Nat → Int} {need many : Int} (h : dlF f n1 z1 n2 z2 need many = true) : bads f n1 z1 n2 z2 need many = badl (bfit n1 z1 z2) n2 := by simp [bads, h]
theorem bads_len (f : Int) (n1 : Nat) (z1 : Nat → Int) (n2 : Nat) (z2 : Nat → Int) (need many : Int) : (bads f n1 z1 n2 z2 need many).length ≤ n2 := by
  unfold bads; split
  · exact badl_len _ _
  · simp

/-- The numbers of a list, by the index. -/
def li (l : List Int) (j : Nat) : Int := l.getD j 0
theorem li_app {l : List Int} {n : Int} {j : Nat} (h : j < l.length) : li (l ++ [n]) j = li l j := by simp [li, List.getElem?_append_left h]
theorem li_last (l : List Int) (n : Int) : li (l ++ [n]) l.length = n := by simp [li]
theorem vals_congr {z y : Nat → Int} {k : Nat} (h : ∀ j, j < k → z j = y j) : vals z k = vals y k := by
  unfold vals; apply List.map_congr_left; intro j hj; rw [h j (List.mem_range.1 hj)]
/-- A slice of the call's own that may be nil. -/
def Lst (w : World) (lo : Nat) (v : Value) (l : List Int) : Prop :=
  (v = .slice none 0 0 ∧ l = []) ∨ ∃ b cap, v = .slice (some ⟨b, 0, none⟩) l.length cap ∧ Row w lo 3 b l.length cap (li l)
theorem Lst.kept {w w' : World} {lo : Nat} {v : Value} {l : List Int} (h : Lst w lo v l) (hg : w.grownBy w' none) : Lst w' lo v l := by
  rcases h with h | ⟨b, c, hv, hr⟩
  · exact .inl h
  · exact .inr ⟨b, c, hv, hr.keptN hg⟩
theorem Lst.alloc {w : World} {lo : Nat} {v : Value} {l : List Int} (h : Lst w lo v l) (o : Obj) : Lst (w.alloc o) lo v l := h.kept (Draw.grown_alloc _ _ _)
theorem Lst.owns {w : World} {lo : Nat} {v : Value} {l : List Int} (h : Lst w lo v l) : w.ownsRow lo 3 1 v l.length (vals (li l) l.length) := by
  rcases h with ⟨rfl, rfl⟩ | ⟨b, c, rfl, hr⟩
  · exact ⟨by simp [vals], .inl ⟨rfl, rfl⟩⟩
  · exact hr.owns
theorem Lst.slice {w : World} {lo : Nat} {v : Value} {l : List Int} (h : Lst w lo v l) : ∃ a c, v = .slice a l.length c ∧ Ints w a l.length (li l) ∧ l.length ≤ c ∧ c ≤ maxLen := by
  rcases h with ⟨rfl, rfl⟩ | ⟨b, c, rfl, hr⟩
  · exact ⟨none, 0, rfl, .inl rfl, Nat.le_refl _, Nat.zero_le _⟩
  · exact ⟨_, c, rfl, hr.ints, hr.le, hr.most⟩
theorem Lst.app {w1 : World} {lo : Nat} {v' : Value} {l : List Int} {n : Int} (h : w1.ownsRow lo 3 1 v' (l.length + 1) (vals (li l) l.length ++ [.int .i64 n])) : Lst w1 lo v' (l ++ [n]) := by
  rw [vals_congr (y := li (l ++ [n])) fun j hj => (li_app hj).symm] at h
  obtain ⟨b, cap, hv, hr⟩ := app_row h (li_last l n).symm
  exact .inr ⟨b, cap, by rw [hv]; simp, by simpa using hr⟩
theorem Lst.app_grown {w wr w1 : World} {o : Obj} {v : Value} {l : List Int} (h : Lst wr w.heap.size v l) (hg : w.grownBy wr none) (hk : (wr.alloc o).grownBy w1 v.ownBlock) : w.grownBy w1 none := by
  rcases h with ⟨rfl, rfl⟩ | ⟨b, c, rfl, hr⟩
  · exact gtr (gtr hg (Draw.grown_alloc _ _ _)) hk
  · exact Mem.app_grown hg hr.from_ hk
theorem gtr' {a b c : World} {r : Option Nat} (h : a.grownBy b r) (k : b.grownBy c r) : a.grownBy c r := Draw.grown_trans h k
theorem Dl.keptB {w w' : World} {b : Nat} {f : Int} {s1 s2 : Value} {r : Option Nat} (h : Dl w b f s1 s2) (hg : w.grownBy w' r) (hne : some b ≠ r) : Dl w' b f s1 s2 := by
  have hb := hg.block b h.lt hne
  exact ⟨Nat.lt_of_lt_of_le h.lt hg.size, by rw [World.cell?_of_block (w := w) hb]; exact h.c0, by rw [World.cell?_of_block (w := w) hb]; exact h.c1, by rw [World.cell?_of_block (w := w) hb]; exact h.c2⟩
theorem Lst.lower {w : World} {lo lo' : Nat} {v : Value} {l : List Int} (h : Lst w lo v l) (hl : lo' ≤ lo) : Lst w lo' v l := by
  rcases h with h | ⟨b, c, hv, hr⟩
  · exact .inl h
  · exact .inr ⟨b, c, hv, hr.lower hl⟩

theorem sdealok (w : World) (f : Int) (a1 : Option Addr) (n1 c1 : Nat) (z1 : Nat → Int) (a2 : Option Addr) (n2 c2 : Nat) (z2 : Nat → Int) (need many : Int) (hA : Ints w a1 n1 z1) (hB : Ints w a2 n2 z2) (hl1 : n1 ≤ 2000000) (hl2 : n2 ≤ 2000000) :
    Calls Try.prog 70 #[.agg #[.int .i64 f, .slice a1 n1 c1, .slice a2 n2 c2], .int .i64 need, .int .i64 many] w fun e w' => e = .returned (.bool (dlF f n1 z1 n2 z2 need many)) ∧ w.grownBy w' none := by
  have HA := Lib.hid (hA.kept (Draw.grown_alloc w (.cells #[.int .i64 f, .slice a1 n1 c1, .slice a2 n2 c2] 91) none)); have HB := Lib.hid (hB.kept (Draw.grown_alloc w (.cells #[.int .i64 f, .slice a1 n1 c1, .slice a2 n2 c2] 91) none)); clear hA hB
  go_enter Try.func70, Try.ntmps70
  go_wp2
  go_loop [7] (fun i => ∃ k : Nat, k ≤ n2 ∧ i = .int .i64 k ∧ okz z2 k = true) (fun i => n2 - (intOf i).toNat)
  case atStart => exact ⟨0, by omega, rfl, rfl⟩
  case round =>
    obtain ⟨k, hk, rfl, hz⟩ := hrel
    have HZ := Lib.hid hz; clear hz
    by_cases hlt : k < n2
    · obtain ⟨b, off, rfl, hb, hc⟩ := HB.out.ptr (by omega)
      have hcx := hc k hlt
      clear hc
      cases hf : fok (z2 k) with
      | false =>
        have HR := Lib.hid (dl_s (f := f) (n1 := n1) (z1 := z1) (need := need) (many := many) (show shF many n2 z2 = false by unfold shF; rw [okz_no hlt hf, Bool.and_false]))
        go_wp2_with (go_at_call 36; refine (sok_no _ _ (by assumption)).mono ?_; rintro e w' ⟨rfl, rfl⟩)
        go_ret
        exact ⟨ret_b HR.out.symm, Draw.grown_alloc _ _ _⟩
      | true =>
        have HR := Lib.hid (okz_next HZ.out hf)
        go_wp2_with (go_at_call 36; refine (sok_yes _ _ (by assumption)).mono ?_; rintro e w' ⟨rfl, rfl⟩)
        go_round
        case rel => exact ⟨k + 1, by omega, by go_num, HR.out⟩
        case measure => simp [intOf]; omega
    · obtain rfl : k = n2 := by omega
      cases hc : crewF need many with
      | false =>
        have HR := Lib.hid (dl_c (f := f) (n1 := n1) (z1 := z1) (n2 := k) (z2 := z2) (need := need) (many := many) hc)
        go_wp2_with fail
        refine (screw _ _ _).mono ?_
        rintro e w' ⟨rfl, rfl⟩
        rw [hc]
        go_wp2
        go_ret
        exact ⟨ret_b HR.out.symm, Draw.grown_alloc _ _ _⟩
      | true =>
        by_cases hf : 1 ≤ f ∧ f ≤ 5
        · cases hk : cokz n1 z1 with
          | false =>
            have HR := Lib.hid (dl_k (f := f) (n1 := n1) (z1 := z1) (n2 := k) (z2 := z2) (need := need) (many := many) hk)
            go_wp2_with fail
            refine (screw _ _ _).mono ?_
            rintro e w' ⟨rfl, rfl⟩
            rw [hc]
            go_wp2_with fail
            refine (s6in_yes _ _ _ _ hf.1 hf.2).mono ?_
            rintro e w' ⟨rfl, rfl⟩
            go_wp2_with fail
            refine (scok _ _ _ _ z1 HA.out (by omega)).mono ?_
            rintro e w' ⟨rfl, rfl⟩
            rw [hk]
            go_wp2
            go_ret
            exact ⟨ret_b HR.out.symm, Draw.grown_alloc _ _ _⟩
          | true =>
            by_cases hn : (n1 : Int) = need
            · by_cases hm : (k : Int) = many
              · have HR := Lib.hid (show dlF f n1 z1 k z2 need many = true from dl_iff.2 ⟨hf, crew_iff.1 hc, ⟨hn, hk⟩, hm, HZ.out⟩)
                have hn' : ((n1 : Int) == need) = true := by simpa using hn
                have hm' : ((k : Int) == many) = true := by simpa using hm
                go_wp2_with fail
                refine (screw _ _ _).mono ?_
                rintro e w' ⟨rfl, rfl⟩
                rw [hc]
                go_wp2_with fail
                refine (s6in_yes _ _ _ _ hf.1 hf.2).mono ?_
                rintro e w' ⟨rfl, rfl⟩
                go_wp2_with fail
                refine (scok _ _ _ _ z1 HA.out (by omega)).mono ?_
                rintro e w' ⟨rfl, rfl⟩
                rw [hk]
                clear hn hm
                go_wp2
                go_ret
                exact ⟨ret_b HR.out.symm, Draw.grown_alloc _ _ _⟩
              · have HR := Lib.hid (dl_s (f := f) (n1 := n1) (z1 := z1) (n2 := k) (z2 := z2) (need := need) (many := many) (show shF many k z2 = false by simp [shF, hm]))
                have hn' : ((n1 : Int) == need) = true := by simpa using hn
                have hm' : ((k : Int) == many) = false := by simpa using hm
                go_wp2_with fail
                refine (screw _ _ _).mono ?_
                rintro e w' ⟨rfl, rfl⟩
                rw [hc]
                go_wp2_with fail
                refine (s6in_yes _ _ _ _ hf.1 hf.2).mono ?_
                rintro e w' ⟨rfl, rfl⟩
                go_wp2_with fail
                refine (scok _ _ _ _ z1 HA.out (by omega)).mono ?_
                rintro e w' ⟨rfl, rfl⟩
                rw [hk]
                clear hn hm
                go_wp2
                go_ret
                exact ⟨ret_b HR.out.symm, Draw.grown_alloc _ _ _⟩
            · have HR := Lib.hid (dl_n (f := f) (n1 := n1) (z1 := z1) (n2 := k) (z2 := z2) (need := need) (many := many) hn)
              have hn' : ((n1 : Int) == need) = false := by simpa using hn
              go_wp2_with fail
              refine (screw _ _ _).mono ?_
              rintro e w' ⟨rfl, rfl⟩
              rw [hc]
              go_wp2_with fail
              refine (s6in_yes _ _ _ _ hf.1 hf.2).mono ?_
              rintro e w' ⟨rfl, rfl⟩
              go_wp2_with fail
              refine (scok _ _ _ _ z1 HA.out (by omega)).mono ?_
              rintro e w' ⟨rfl, rfl⟩
              rw [hk]
              clear hn
              go_wp2
              go_ret
              exact ⟨ret_b HR.out.symm, Draw.grown_alloc _ _ _⟩
        · have HR := Lib.hid (dl_d (f := f) (n1 := n1) (z1 := z1) (n2 := k) (z2 := z2) (need := need) (many := many) (show deF f = false from decide_eq_false hf))
          go_wp2_with fail
          refine (screw _ _ _).mono ?_
          rintro e w' ⟨rfl, rfl⟩
          rw [hc]
          go_wp2_with fail
          refine (s6in_no _ _ _ _ hf).mono ?_
          rintro e w' ⟨rfl, rfl⟩
          go_wp2
          go_ret
          exact ⟨ret_b HR.out.symm, Draw.grown_alloc _ _ _⟩

set_option maxRecDepth 100000 in
set_option maxHeartbeats 2000000 in
theorem s11bad (w : World) (f : Int) (a1 : Option Addr) (n1 c1 : Nat) (z1 : Nat → Int) (a2 : Option Addr) (n2 c2 : Nat) (z2 : Nat → Int) (need many : Int) (hA : Ints w a1 n1 z1) (hB : Ints w a2 n2 z2) (hl1 : n1 ≤ 2000000) (hl2 : n2 ≤ 2000000) (hm5 : n2 ≤ 5) (hp1 : cokz n1 z1 = true) (hp2 : okz z2 n2 = true) :
    Calls Try.prog 74 #[.agg #[.int .i64 f, .slice a1 n1 c1, .slice a2 n2 c2]] w (Own1 3 w (badl (bfit n1 z1 z2) n2).length (li (badl (bfit n1 z1 z2) n2))) := by
  have HA := Lib.hid hA; have HB := Lib.hid hB; clear hA hB
  have HD := Lib.hid (Dl.new w f (.slice a1 n1 c1) (.slice a2 n2 c2) 91)
  have HP := Lib.hid hp1; have HQ := Lib.hid (okz_iff.1 hp2); have HK := Lib.hid (cokz_iff.1 hp1).2.2; clear hp1 hp2
  obtain ⟨i0, hi, hz0, hz1, hz2⟩ := info_parts info_int
  have hs1 : (w.alloc (.cells #[.int .i64 f, .slice a1 n1 c1, .slice a2 n2 c2] 91)).heap.size = w.heap.size + 1 := by show (w.heap.push _).size = _; simp
  have HR0 := row_empty (w.alloc (.cells #[.int .i64 f, .slice a1 n1 c1, .slice a2 n2 c2] 91)) 3 (li [])
  rw [hs1] at HR0
  have HR0 := Lib.hid HR0
  clear hs1
  go_enter Try.func74, Try.ntmps74
  go_wp2
  go_loopw [3, 4] (fun v i wr => ∃ k b cap : Nat, k ≤ n2 ∧ v = .slice (some ⟨b, 0, none⟩) (badl (bfit n1 z1 z2) k).length cap ∧ i = .int .i64 k ∧ Row wr (w.heap.size + 1) 3 b (badl (bfit n1 z1 z2) k).length cap (li (badl (bfit n1 z1 z2) k)) ∧ Dl wr w.heap.size f (.slice a1 n1 c1) (.slice a2 n2 c2) ∧ w.grownBy wr none) (fun _ i _ => n2 - (intOf i).toNat)
  case atStart => exact ⟨0, _, 0, by omega, rfl, rfl, HR0.out, HD.out.kept (Draw.grown_alloc _ _ _), gtr (Draw.grown_alloc _ _ _) (Draw.grown_alloc _ _ _)⟩
  case round =>
    obtain ⟨k, bo, co, hk, rfl, rfl, hr, hd, hg⟩ := hrel
    have HG := Lib.hid hg; have hge := hr.from_; have HW := Lib.hid hr; have HDr := Lib.hid hd; clear hg hr hd
    obtain ⟨hlb, k0, k1, k2⟩ := HDr.out
    have hlen := badl_len (bfit n1 z1 z2) k
    by_cases hlt : k < n2
    · have hfx : fok ((k : Int) + 1) = true := fok_iff.2 (by omega)
      have hfn := HQ.out k hlt
      have hfit : cfz n1 z1 ((k : Int) + 1) (z2 k) = (gofF (z2 k) == gofF (Pol.fi (Pol.ev (fl (lz z1) n1) (Pol.cv ((k : Int) + 1))))) := by rw [cfz_in HP.out hfx hfn, catz_in HP.out hfx]
      have HX := Lib.hid hfx; have HN := Lib.hid hfn; have HF := Lib.hid hfit; clear hfx hfn hfit
      obtain ⟨b, off, rfl, hb, hc⟩ := (HB.out.kept HG.out).ptr (by omega)
      have hcx := hc k hlt
      clear hc
      cases hf : cfz n1 z1 ((k : Int) + 1) (z2 k) with
      | true =>
        have HE := Lib.hid (badl_yes (g := bfit n1 z1 z2) (k := k) hf)
        have hwr : IntKind.i64.wrap ((k : Int) + 1) = (k : Int) + 1 := by rw [IntKind.wrap_i64]; omega
        have HAd := Lib.hid ((HA.out.kept HG.out).keptB (w' := wr.drew) (fun _ _ => rfl) (Nat.le_refl _))
        go_wp2_with fail
        go_region_held3 (fun w' => w'.cell? ⟨w.heap.size, 1, none⟩ = some (.slice a1 n1 c1) ∧ w'.cell? ⟨w.heap.size, 2, none⟩ = some (.slice (some ⟨b, off, none⟩) n2 c2) ∧ w'.cell? ⟨b, off + k, none⟩ = some (.int .i64 (z2 k))) (first | exact hS2 | exact ⟨k1, k2, hcx⟩) ((go_at_call 75; (with_reducible refine (s4fit _ _ _ _ z1 _ _ HAd.out (by omega) HK.out HX.out HN.out).mono ?_); rintro e w2 ⟨rfl, hg2⟩; rw [← HF.out, hf]; have HGw := Lib.hid (show wr.grownBy w2 none from ⟨hg2.os, hg2.tape, hg2.output, hg2.size, hg2.block⟩); have HG2 := HGw; clear hg2; have hS2 : w2.cell? ⟨w.heap.size, 1, none⟩ = some (.slice a1 n1 c1) ∧ w2.cell? ⟨w.heap.size, 2, none⟩ = some (.slice (some ⟨b, off, none⟩) n2 c2) ∧ w2.cell? ⟨b, off + k, none⟩ = some (.int .i64 (z2 k)) := ⟨(HDr.out.kept HGw.out).c1, (HDr.out.kept HGw.out).c2, (World.cell?_of_block (w := wr) (HGw.out.block b hb (by simp))).trans hcx⟩))
        all_goals
          go_wp2
          go_roundw
          case rel => exact ⟨k + 1, _, _, by omega, by rw [HE.out], by go_num, by rw [HE.out]; exact HW.out.keptN HG2.out, HDr.out.kept HG2.out, gtr HG.out HG2.out⟩
          case measure => simp [intOf]; omega
      | false =>
        have HE := Lib.hid (badl_no (g := bfit n1 z1 z2) (k := k) hf)
        have hwr : IntKind.i64.wrap ((k : Int) + 1) = (k : Int) + 1 := by rw [IntKind.wrap_i64]; omega
        have HAd := Lib.hid ((HA.out.kept HG.out).keptB (w' := wr.drew) (fun _ _ => rfl) (Nat.le_refl _))
        go_wp2_with fail
        go_region_held3 (fun w' => w'.cell? ⟨w.heap.size, 1, none⟩ = some (.slice a1 n1 c1) ∧ w'.cell? ⟨w.heap.size, 2, none⟩ = some (.slice (some ⟨b, off, none⟩) n2 c2) ∧ w'.cell? ⟨b, off + k, none⟩ = some (.int .i64 (z2 k))) (first | exact hS2 | exact ⟨k1, k2, hcx⟩) ((go_at_call 75; (with_reducible refine (s4fit _ _ _ _ z1 _ _ HAd.out (by omega) HK.out HX.out HN.out).mono ?_); rintro e w2 ⟨rfl, hg2⟩; rw [← HF.out, hf]; have HGw := Lib.hid (show wr.grownBy w2 none from ⟨hg2.os, hg2.tape, hg2.output, hg2.size, hg2.block⟩); have HG2 := Lib.hid (gtr HG.out HGw.out); have HW2 := Lib.hid (HW.out.keptN HGw.out); have HD2 := Lib.hid (HDr.out.kept HGw.out); clear hg2; have hsz := HD2.out.lt; have hS2 : w2.cell? ⟨w.heap.size, 1, none⟩ = some (.slice a1 n1 c1) ∧ w2.cell? ⟨w.heap.size, 2, none⟩ = some (.slice (some ⟨b, off, none⟩) n2 c2) ∧ w2.cell? ⟨b, off + k, none⟩ = some (.int .i64 (z2 k)) := ⟨(HDr.out.kept HGw.out).c1, (HDr.out.kept HGw.out).c2, (World.cell?_of_block (w := wr) (HGw.out.block b hb (by simp))).trans hcx⟩))
        all_goals
          go_wp2_with (at_builtin; refine wpList_append_own _ rfl _ _ 23 rfl (w.heap.size + 1) 3 i0 (.int .i64 0) 1 8 und_ints hi hz0 hz1 hz2 rfl (by decide) _ _ (vals (li (badl (bfit n1 z1 z2) k)) (badl (bfit n1 z1 z2) k).length) rfl (HW2.out.alloc _).owns ⟨w2.heap.size, 0, none⟩ 1 1 [.int .i64 ((k : Int) + 1)] rfl rfl (cell_one_new _ _ _) (by simp [Value.oneCell']) (by unfold maxLen; omega) (by omega) (by simp; omega) ?_; intro v' w3 hown' hgrow _)
          rw [vals_congr (y := li (badl (bfit n1 z1 z2) k ++ [(k : Int) + 1])) fun j hj => (li_app hj).symm] at hown'
          obtain ⟨b', cap', rfl, hrow⟩ := app_row hown' (li_last _ _).symm
          have HR := Lib.hid (show Row w3 (w.heap.size + 1) 3 b' (badl (bfit n1 z1 z2) (k + 1)).length cap' (li (badl (bfit n1 z1 z2) (k + 1))) by rw [HE.out]; simpa using hrow)
          have HL := Lib.hid (show (Value.slice (some ⟨b', 0, none⟩) ((badl (bfit n1 z1 z2) k).length + 1) cap') = .slice (some ⟨b', 0, none⟩) (badl (bfit n1 z1 z2) (k + 1)).length cap' by rw [HE.out]; simp)
          have HG3 := Lib.hid (Mem.app_grown HG2.out (by omega) hgrow)
          have HD3 := Lib.hid (HD2.out.keptB (gtr' (Draw.grown_alloc _ _ _) hgrow) (by intro e; have e := Option.some.inj e; simp at e; omega))
          clear hown' hgrow hrow
          go_wp2
          go_roundw
          case rel => exact ⟨k + 1, b', cap', by omega, HL.out, by go_num, HR.out, HD3.out, HG3.out⟩
          case measure => simp [intOf]; omega
    · obtain rfl : k = n2 := by omega
      go_wp2
      go_ret
      exact ⟨_, _, rfl, HW.out.lower (by omega), HG.out⟩

end Con
end Go.Proofs.Ytchgjdbmianajaa
/-
  The model's deal of a polynomial.
-/

namespace Go.Proofs.Ytchgjdbmianajaa
namespace Con
open Go.RowKit Alg Mem Pol
set_option linter.unusedVariables false

/-- A block of memory, whole. -/
def Blk (w : World) (b : Nat) (vs : Array Value) (T : TypeId) : Prop := w.heap[b]? = some (.cells vs T (0, 0))
theorem Blk.lt {w : World} {b : Nat} {vs : Array Value} {T : TypeId} (h : Blk w b vs T) : b < w.heap.size := by
  rcases Nat.lt_or_ge b w.heap.size with h' | h'
  · exact h'
  · unfold Blk at h; simp [Array.getElem?_eq_none h'] at h
theorem Blk.new (w : World) (vs : Array Value) (T : TypeId) : Blk (w.alloc (.cells vs T)) w.heap.size vs T := by
  show (w.heap.push _)[w.heap.size]? = _; simp
theorem Blk.kept {w w' : World} {b : Nat} {vs : Array Value} {T : TypeId} {r : Option Nat} (h : Blk w b vs T) (hg : w.grownBy w' r) (hne : some b ≠ r) : Blk w' b vs T := (hg.block b h.lt hne).trans h
theorem Blk.keptN {w w' : World} {b : Nat} {vs : Array Value} {T : TypeId} (h : Blk w b vs T) (hg : w.grownBy w' none) : Blk w' b vs T := h.kept hg (by simp)
theorem Blk.set {w : World} {b : Nat} {vs : Array Value} {T : TypeId} (h : Blk w b vs T) (i : Nat) (v : Value) : Blk (w.setCell ⟨b, i, none⟩ v) b (vs.setIfInBounds i v) T := heap_setCell_same w b i vs T v h
theorem Blk.other {w : World} {b b' i : Nat} {vs : Array Value} {T : TypeId} {v : Value} (h : Blk w b vs T) (hne : b ≠ b') : Blk (w.setCell ⟨b', i, none⟩ v) b vs T := (heap_setCell_other w ⟨b', i, none⟩ b v hne).trans h
theorem Blk.cell {w : World} {b : Nat} {vs : Array Value} {T : TypeId} (h : Blk w b vs T) (i : Nat) : w.cell? ⟨b, i, none⟩ = vs[i]? := by
  unfold Blk at h; simp only [World.cell?, h]; rfl
theorem Blk.free {w : World} {b : Nat} {vs : Array Value} {T : TypeId} (h : Blk w b vs T) (i : Nat) : w.frozen? ⟨b, i, none⟩ = false := by
  unfold Blk at h; simp [World.frozen?, h]
theorem Blk.dl {w : World} {b : Nat} {f : Int} {s1 s2 : Value} {T : TypeId} (h : Blk w b #[.int .i64 f, s1, s2] T) : Dl w b f s1 s2 := ⟨h.lt, h.cell 0, h.cell 1, h.cell 2⟩
/-- What all three cells of a deal in memory hold, and that they may be written. -/
structure Blk3 (w : World) (b : Nat) (v0 v1 v2 : Value) : Prop where
  c0 : w.cell? ⟨b, 0, none⟩ = some v0
  c1 : w.cell? ⟨b, 1, none⟩ = some v1
  c2 : w.cell? ⟨b, 2, none⟩ = some v2
  f0 : w.frozen? ⟨b, 0, none⟩ = false
  f1 : w.frozen? ⟨b, 1, none⟩ = false
  f2 : w.frozen? ⟨b, 2, none⟩ = false
theorem Blk.all {w : World} {b : Nat} {v0 v1 v2 : Value} {T : TypeId} (h : Blk w b #[v0, v1, v2] T) : Blk3 w b v0 v1 v2 := ⟨h.cell 0, h.cell 1, h.cell 2, h.free 0, h.free 1, h.free 2⟩

theorem Lst.own_ne {w : World} {lo B : Nat} {v : Value} {l : List Int} (h : Lst w lo v l) (hB : B < lo) : some B ≠ v.ownBlock := by
  rcases h with ⟨rfl, rfl⟩ | ⟨b, c, rfl, hr⟩
  · intro e; cases e
  · intro e; have e := Option.some.inj e; have := hr.from_; simp at e; omega
theorem Lst.keptB {w w' : World} {lo B : Nat} {v : Value} {l : List Int} (h : Lst w lo v l) (hg : w.grownBy w' (some B)) (hB : B < lo) : Lst w' lo v l := by
  rcases h with h | ⟨b, c, hv, hr⟩
  · exact .inl h
  · exact .inr ⟨b, c, hv, hr.kept hg (by intro e; have e := Option.some.inj e; have := hr.from_; omega)⟩
theorem size_deal : (Try.prog.info? 91).map (·.size) = some 3 := by kernel_rfl
theorem ret_deal {fn : Func} {p : Tmp} (h : fn.results = #[.cell p 91]) (tmps : Array Value) {w : World} {b : Nat} {v0 v1 v2 : Value} {T : TypeId} (hp : tmps.getD p undef = .pointer (some ⟨b, 0, none⟩)) (hb : Blk w b #[v0, v1, v2] T) :
    (results fn tmps).run Try.prog w = .ok (.agg #[v0, v1, v2]) w :=
  results_cell_row h tmps w b T #[v0, v1, v2] (0, 0) _ hp hb Try.underlying91 rfl size_deal
/-- The shares that a polynomial gives. -/
def shl (len : Nat) (z : Nat → Int) (k : Nat) : List Int := (List.range k).map fun (i : Nat) => fi (ev (fl z len) (cv ((i : Int) + 1)))
theorem shl_len (len : Nat) (z : Nat → Int) (k : Nat) : (shl len z k).length = k := by simp [shl]
theorem shl_succ (len : Nat) (z : Nat → Int) (k : Nat) : shl len z (k + 1) = shl len z k ++ [fi (ev (fl z len) (cv ((k : Int) + 1)))] := by simp [shl, List.range_succ]
/-- What a deal of a polynomial leaves: two rows of its own, that of what is shown ahead of that of the shares. -/
def DealOf (w : World) (f : Int) (m len : Nat) (z : Nat → Int) (e : Ending) (w' : World) : Prop :=
  ∃ (b1 c1 B : Nat) (v : Value), e = .returned (.agg #[.int .i64 f, .slice (some ⟨b1, 0, none⟩) len c1, v]) ∧ w.heap.size ≤ B ∧ b1 < B ∧ Row w' w.heap.size 3 b1 len c1 (gz z) ∧ Lst w' B v (shl len z m) ∧ w.grownBy w' none
theorem own_list {w : World} {lo : Nat} {v : Value} {l : List Int} {X : Int} {w3 : World} {v' : Value} (h : w3.ownsRow lo 3 1 v' (l.length + 1) (vals (li l) l.length ++ [.int .i64 X])) :
    ∃ b c, v' = .slice (some ⟨b, 0, none⟩) (l.length + 1) c ∧ Row w3 lo 3 b (l ++ [X]).length c (li (l ++ [X])) := by
  rw [vals_congr (y := li (l ++ [X])) fun j hj => (li_app hj).symm] at h
  obtain ⟨b, c, hv, hr⟩ := app_row h (li_last l X).symm
  exact ⟨b, c, hv, by simpa using hr⟩

set_option maxRecDepth 100000 in
set_option maxHeartbeats 2000000 in
theorem s11make (w : World) (f : Int) (m : Nat) (a : Option Addr) (len cap : Nat) (z : Nat → Int) (hI : Ints w a len z) (hl : len ≤ 5) (hz : ∀ j, j < len → fok (z j) = true) (hm : m ≤ 5) :
    Calls Try.prog 66 #[.int .i64 f, .int .i64 m, .slice a len cap] w (DealOf w f m len z) := by
  have HI := Lib.hid hI; have HZ := Lib.hid hz; clear hI hz
  go_enter Try.func66, Try.ntmps66
  go_wp2_with fail
  refine (s4of _ _ _ _ z (HI.out.kept (Draw.grown_alloc _ _ _)) (by omega) HZ.out).mono ?_
  rintro e w1 ⟨b1, c1, rfl, hr, hg⟩
  have HD := Lib.hid ((Blk.new w #[.int .i64 0, .slice none 0 0, .slice none 0 0] 91).keptN hg)
  obtain ⟨k0, k1, k2, f0, f1, f2⟩ := HD.out.all
  have hge0 := hr.from_
  have HRg := Lib.hid (show w.heap.size + 1 ≤ b1 from by simpa using hge0)
  clear hge0
  have HR := Lib.hid (hr.lower (Draw.grown_alloc w (.cells #[.int .i64 0, .slice none 0 0, .slice none 0 0] 91) none).size); have HG := Lib.hid (gtr (Draw.grown_alloc _ _ _) hg); clear hr hg
  have hD0 := HD.out.lt
  have hb1 := HR.out.lt
  obtain ⟨i0, hi, hz0, hz1, hz2⟩ := info_parts info_int
  go_wp2_with fail
  clear k0 k1 k2 f0 f1 f2
  go_loopw [8] (fun i wr => ∃ (k : Nat) (v : Value), k ≤ m ∧ i = .int .i64 ((k : Int) + 1) ∧ Blk wr w1.heap.size #[.int .i64 f, .slice (some ⟨b1, 0, none⟩) len c1, v] 91 ∧ Lst wr (w1.heap.size + 1) v (shl len z k) ∧ w1.grownBy wr none) (fun i _ => m + 1 - (intOf i).toNat)
  case atStart => exact ⟨0, _, by omega, by first | rfl | go_num, Blk.new _ _ _, .inl ⟨rfl, rfl⟩, Draw.grown_alloc _ _ _⟩
  case round =>
    obtain ⟨k, v, hk, rfl, hb, hL, hg⟩ := hrel
    have HB := Lib.hid hb; have HL := Lib.hid hL; have HGr := Lib.hid hg; clear hb hL hg
    obtain ⟨k0, k1, k2, f0, f1, f2⟩ := HB.out.all
    have hlt1 := HB.out.lt
    have hlk := shl_len len z k
    by_cases hlt : k < m
    · have HX := Lib.hid (show fok ((k : Int) + 1) = true from fok_iff.2 (by omega))
      have HId := Lib.hid ((HI.out.kept (gtr HG.out HGr.out)).keptB (w' := wr.drew) (fun _ _ => rfl) (Nat.le_refl _))
      have hlt' : (k : Int) + 1 ≤ (m : Int) := by omega
      have HE := Lib.hid (shl_succ len z k)
      go_wp2_with fail
      generalize hXX : fi (ev (fl z len) (cv ((k : Int) + 1))) = X at HE
      generalize hLL : shl len z k = l at *
      go_region_law (first
        | (refine step_app _ (by rfl) (.tmp 19) (.tmp 23) 23 rfl (w1.heap.size + 1) 3 i0 (.int .i64 0) 1 8 und_ints hi hz0 hz1 hz2 rfl (by decide) v l.length (vals (li l) l.length) rfl (HL.out.alloc (.cells #[.int .i64 X] 3)).owns.drew ⟨wr.heap.size, 0, none⟩ 1 1 [.int .i64 X] rfl rfl (cell_one_new _ _ _) (by simp [Value.oneCell']) (by unfold maxLen; omega) (by omega) (by show _ ≤ (wr.alloc _).heap.size; simp; omega) ?_; intro v' w3 hown' hgrow hnil; have hgr : (wr.alloc (.cells #[.int .i64 X] 3)).grownBy w3 v.ownBlock := ⟨hgrow.os, hgrow.tape, hgrow.output, hgrow.size, hgrow.block⟩; obtain ⟨b3, c3, rfl, hrow⟩ := own_list (w := wr) (v := v) hown'; have HRw := Lib.hid hrow; have HB3 := Lib.hid ((HB.out.keptN (Draw.grown_alloc wr (.cells #[.int .i64 X] 3) none)).kept hgr (HL.out.own_ne (by omega))); have HG3 := Lib.hid (Lst.app_grown (HL.out.lower (Nat.le_succ _)) HGr.out hgr); obtain ⟨_, _, k2', _, _, f2'⟩ := HB3.out.all; clear hown' hgrow hgr hnil hrow)
        | (refine at_slot 22 rfl ?_; go_simp; go_at_call 80; (with_reducible refine (s3at _ _ _ _ z _ HId.out (by omega) HZ.out HX.out).mono ?_); rintro e w' ⟨rfl, rfl⟩; rw [hXX]; dsimp only))
      all_goals
        have hge := HRw.out.from_
        go_wp2
        go_roundw
        case rel => exact ⟨k + 1, .slice (some ⟨b3, 0, none⟩) (k + 1) c3, by omega, by go_num, HB3.out.set 2 _, by rw [HE.out]; exact .inr ⟨b3, c3, by simp [hlk], HRw.out.kept (grown_set _ _ _ _) (by intro e; have e := Option.some.inj e; omega)⟩, grown_new HG3.out (Nat.le_refl _) (grown_set _ _ _ _)⟩
        case measure => simp [intOf]; omega
    · obtain rfl : k = m := by omega
      have HD0 := Lib.hid (HD.out.keptN HGr.out)
      obtain ⟨j0, j1, j2, g0, g1, g2⟩ := HD0.out.all
      obtain ⟨av, cv', rfl, _⟩ := HL.out.slice
      have hb2 : b1 < w1.heap.size + 1 := by omega
      have hle : w.heap.size ≤ w1.heap.size := by omega
      have HGw := Lib.hid (gtr HG.out HGr.out)
      have HR3 := Lib.hid (HR.out.keptN HGr.out)
      have HLk := Lib.hid (show Lst wr (w1.heap.size + 1) (.slice av k cv') (shl len z k) by have h := HL.out; rwa [hlk] at h)
      go_wp2
      (try simp only [Exit.inBlock, Exit.then])
      refine bodyPost_ret (ret_deal rfl _ rfl (((HD0.out.set 0 (.int .i64 f)).set 1 (.slice (some ⟨b1, 0, none⟩) len c1)).set 2 (.slice av k cv'))) rfl ?_
      have g0 := grown_set wr w.heap.size 0 (.int .i64 f)
      have g1 := gtr' g0 (grown_set _ w.heap.size 1 (.slice (some ⟨b1, 0, none⟩) len c1))
      have g2 := gtr' g1 (grown_set _ w.heap.size 2 (.slice av k cv'))
      have hgt := HGw.out
      exact ⟨b1, c1, w1.heap.size + 1, _, rfl, by omega, hb2, HR3.out.kept g2 (by intro e; have e := Option.some.inj e; have := HRg.out; omega), HLk.out.keptB g2 (by omega), grown_new hgt (Nat.le_refl _) g2⟩
end Con
end Go.Proofs.Ytchgjdbmianajaa
/-
  How the model draws a deal, a committee, and both.
-/

namespace Go.Proofs.Ytchgjdbmianajaa
namespace Draw
open Go.RowKit Alg Mem Con
set_option linter.unusedVariables false

/-- What a drawn deal leaves. -/
def DrawnD (w : World) (base B : Nat) (a : Option Addr) (len cap p k : Nat) (f : Int) (n m : Nat) (e : Ending) (w' : World) : Prop :=
  ∃ (b1 c1 : Nat) (z1 : Nat → Int) (b2 c2 : Nat) (z2 : Nat → Int), e = .returned (.agg #[.int .i64 f, .slice (some ⟨b1, 0, none⟩) n c1, .slice (some ⟨b2, 0, none⟩) m c2]) ∧
    Row w' w.heap.size 3 b1 n c1 z1 ∧ Row w' w.heap.size 3 b2 m c2 z2 ∧ (b1 < b2 ∧ ∀ j, j < m → fok (z2 j) = true) ∧ w.grownBy w' (some B) ∧ ∃ p', p ≤ p' ∧ p' ≤ p + k ∧ Rd w' base B a len cap p'
/-- What holds while a deal is drawn: its block, its two rows, the place of its result, the reader. -/
structure HeldD (w : World) (base B : Nat) (a : Option Addr) (len cap lo hi D0 D1 : Nat) (f : Int) (b1 n c1 b2 m c2 : Nat) (wr : World) : Prop where
  d0 : Blk wr D0 #[.int .i64 0, .slice none 0 0, .slice none 0 0] 91
  d1 : Blk wr D1 #[.int .i64 f, .slice (some ⟨b1, 0, none⟩) n c1, .slice (some ⟨b2, 0, none⟩) m c2] 91
  r1 : ∃ z1, Row wr w.heap.size 3 b1 n c1 z1
  r2 : ∃ z2, Row wr w.heap.size 3 b2 m c2 z2 ∧ ∀ j, j < m → fok (z2 j) = true
  o0 : w.heap.size ≤ D0
  o1 : D0 < b1
  o2 : b1 < b2
  o3 : b2 < D1
  oB : B < w.heap.size
  g : w.grownBy wr (some B)
  rd : ∃ p', lo ≤ p' ∧ p' ≤ hi ∧ Rd wr base B a len cap p'
theorem HeldD.step {w : World} {base B : Nat} {a : Option Addr} {len cap lo hi hi' D0 D1 : Nat} {f : Int} {b1 n c1 b2 m c2 p' : Nat} {wr w' : World} (h : HeldD w base B a len cap lo hi D0 D1 f b1 n c1 b2 m c2 wr)
    (hg : wr.grownBy w' (some B)) (hrd : Rd w' base B a len cap p') (h1 : lo ≤ p') (h2 : p' ≤ hi') : HeldD w base B a len cap lo hi' D0 D1 f b1 n c1 b2 m c2 w' := by
  obtain ⟨d0, d1, ⟨z1, r1⟩, ⟨z2, r2, y2⟩, o0, o1, o2, o3, oB, g, rd⟩ := h
  exact ⟨d0.kept hg (by intro e; have e := Option.some.inj e; omega), d1.kept hg (by intro e; have e := Option.some.inj e; omega), ⟨z1, r1.kept hg (by intro e; have e := Option.some.inj e; omega)⟩, ⟨z2, r2.kept hg (by intro e; have e := Option.some.inj e; omega), y2⟩, o0, o1, o2, o3, oB, grown_trans g hg, p', h1, h2, hrd⟩
theorem HeldD.set1 {w : World} {base B : Nat} {a : Option Addr} {len cap lo hi D0 D1 : Nat} {f : Int} {b1 n c1 b2 m c2 : Nat} {wr : World} (h : HeldD w base B a len cap lo hi D0 D1 f b1 n c1 b2 m c2 wr) (j : Nat) (u : Int) :
    HeldD w base B a len cap lo hi D0 D1 f b1 n c1 b2 m c2 (wr.setCell ⟨b1, j, none⟩ (.int .i64 u)) := by
  obtain ⟨d0, d1, ⟨z1, r1⟩, ⟨z2, r2, y2⟩, o0, o1, o2, o3, oB, g, p', q1, q2, hrd⟩ := h
  have hg := grown_set wr b1 j (.int .i64 u)
  exact ⟨d0.other (by omega), d1.other (by omega), ⟨_, r1.set j u⟩, ⟨z2, r2.kept hg (by intro e; have e := Option.some.inj e; omega), y2⟩, o0, o1, o2, o3, oB, grown_newR g (by omega) hg, p', q1, q2, hrd.grown hg (by omega)⟩
theorem HeldD.set2 {w : World} {base B : Nat} {a : Option Addr} {len cap lo hi D0 D1 : Nat} {f : Int} {b1 n c1 b2 m c2 : Nat} {wr : World} (h : HeldD w base B a len cap lo hi D0 D1 f b1 n c1 b2 m c2 wr) (j : Nat) (u : Int) (hu : fok u = true) :
    HeldD w base B a len cap lo hi D0 D1 f b1 n c1 b2 m c2 (wr.setCell ⟨b2, j, none⟩ (.int .i64 u)) := by
  obtain ⟨d0, d1, ⟨z1, r1⟩, ⟨z2, r2, y2⟩, o0, o1, o2, o3, oB, g, p', q1, q2, hrd⟩ := h
  have hg := grown_set wr b2 j (.int .i64 u)
  exact ⟨d0.other (by omega), d1.other (by omega), ⟨z1, r1.kept hg (by intro e; have e := Option.some.inj e; omega)⟩, ⟨_, r2.set j u, fun i hi => by show fok (if i = j then u else z2 i) = true; split; exact hu; exact y2 i hi⟩, o0, o1, o2, o3, oB, grown_newR g (by omega) hg, p', q1, q2, hrd.grown hg (by omega)⟩
/-- The deal is stored into the place of the result. -/
def stored (wr : World) (D0 : Nat) (v0 v1 v2 : Value) : World := ((wr.setCell ⟨D0, 0, none⟩ v0).setCell ⟨D0, 1, none⟩ v1).setCell ⟨D0, 2, none⟩ v2
theorem HeldD.ends {w : World} {base B : Nat} {a : Option Addr} {len cap p k D0 D1 : Nat} {f : Int} {b1 n c1 b2 m c2 : Nat} {wr : World} (h : HeldD w base B a len cap p (p + k) D0 D1 f b1 n c1 b2 m c2 wr) :
    Blk (stored wr D0 (.int .i64 f) (.slice (some ⟨b1, 0, none⟩) n c1) (.slice (some ⟨b2, 0, none⟩) m c2)) D0 #[.int .i64 f, .slice (some ⟨b1, 0, none⟩) n c1, .slice (some ⟨b2, 0, none⟩) m c2] 91 ∧
    DrawnD w base B a len cap p k f n m (.returned (.agg #[.int .i64 f, .slice (some ⟨b1, 0, none⟩) n c1, .slice (some ⟨b2, 0, none⟩) m c2])) (stored wr D0 (.int .i64 f) (.slice (some ⟨b1, 0, none⟩) n c1) (.slice (some ⟨b2, 0, none⟩) m c2)) := by
  obtain ⟨d0, d1, ⟨z1, r1⟩, ⟨z2, r2, y2⟩, o0, o1, o2, o3, oB, g, p', q1, q2, hrd⟩ := h
  have g0 := grown_set wr D0 0 (.int .i64 f)
  have g1 := gtr' g0 (grown_set _ D0 1 (.slice (some ⟨b1, 0, none⟩) n c1))
  have g2 := gtr' g1 (grown_set _ D0 2 (.slice (some ⟨b2, 0, none⟩) m c2))
  exact ⟨((d0.set 0 _).set 1 _).set 2 _, b1, c1, z1, b2, c2, z2, rfl, r1.kept g2 (by intro e; have e := Option.some.inj e; omega), r2.kept g2 (by intro e; have e := Option.some.inj e; omega), ⟨o2, y2⟩, grown_newR g (by omega) g2, p', q1, q2, hrd.grown g2 (by omega)⟩
theorem shl_ok {len : Nat} {z : Nat → Int} {m j : Nat} (h : j < m) : fok (li (shl len z m) j) = true := by
  have e : li (shl len z m) j = Pol.fi (Pol.ev (fl z len) (Pol.cv ((j : Int) + 1))) := by simp [li, shl, h]
  rw [e]; exact Pol.fi_ok _
set_option maxRecDepth 100000 in
set_option maxHeartbeats 2000000 in
theorem deal_any (w : World) (base B : Nat) (a : Option Addr) (len cap p : Nat) (f : Int) (n m : Nat) (h : Rd w base B a len cap p) (hp : p ≤ 10000000) (hn1 : 1 ≤ n) (hn5 : n ≤ 5) (hm1 : 1 ≤ m) (hm5 : m ≤ 5) :
    Calls Try.prog 73 #[.pointer (some ⟨B, 0, none⟩), .int .i64 f, .int .i64 n, .int .i64 m] w (DrawnD w base B a len cap p 9 f n m) := by
  have hB := h.lt
  go_enter Try.func73, Try.ntmps73
  have HD0 := Lib.hid (Blk.new w #[.int .i64 0, .slice none 0 0, .slice none 0 0] 91)
  have HG0 := Lib.hid (Draw.grown_alloc w (.cells #[.int .i64 0, .slice none 0 0, .slice none 0 0] 91) (some B))
  have hs0 : (w.alloc (.cells #[.int .i64 0, .slice none 0 0, .slice none 0 0] 91)).heap.size = w.heap.size + 1 := by show (w.heap.push _).size = _; simp
  go_wp2_with fail
  refine (pick_any _ base B a len cap p 23 (h.alloc _) (by omega) (by omega)).mono ?_
  rintro e w1 ⟨x, x0, x1, rfl, hr1, hg1, hs1⟩
  have HD1 := Lib.hid (HD0.out.kept hg1 (by intro e; have e := Option.some.inj e; omega)); have HG1 := Lib.hid (grown_trans HG0.out hg1); have HR1 := Lib.hid hr1
  clear hr1 hg1 h
  go_wp2_with fail
  refine (pick_any _ base B a len cap (p + 1) 1000 HR1.out (by omega) (by omega)).mono ?_
  rintro e w2 ⟨y, y0, y1, rfl, hr2, hg2, hs2⟩
  have HD2 := Lib.hid (HD1.out.kept hg2 (by intro e; have e := Option.some.inj e; omega)); have HG2 := Lib.hid (grown_trans HG1.out hg2); have HR2 := Lib.hid hr2
  clear hr2 hg2
  have hfx : fok x = true := fok_mk x0 (by omega)
  go_wp2_with fail
  refine (s11poly _ n x y hn1 hn5 y0 (by omega)).mono ?_
  rintro e w3 ⟨b3, c3, rfl, hr3, hg3⟩
  have HI := Lib.hid hr3.ints; have HD3 := Lib.hid (HD2.out.keptN hg3); have HG3 := Lib.hid (grown_trans HG2.out (grown_some hg3)); have HR3 := Lib.hid (HR2.out.kept (fun k hk => hg3.block k (by have := HR2.out.lt; have := HR2.out.from_; omega) (by simp)) (hg3.block B HR2.out.lt (by simp))); have hs3 := hg3.size
  have HZ := Lib.hid (fun j (_ : j < n) => dz_ok (seed := y) hfx j)
  clear hr3 hg3
  go_wp2_with fail
  refine (s11make _ f m _ n c3 (dz x y) HI.out hn5 HZ.out hm5).mono ?_
  rintro e w4 ⟨b1, c1, Bv, v, rfl, hBv, hb1v, hr4, hL, hg4⟩
  have hRow : ∃ b2 c2, v = .slice (some ⟨b2, 0, none⟩) m c2 ∧ Row w4 Bv 3 b2 m c2 (li (shl n (dz x y) m)) := by
    rcases hL with ⟨_, h0⟩ | ⟨b2, c2, hv, hr⟩
    · have := shl_len n (dz x y) m; rw [h0] at this; simp at this; omega
    · rw [shl_len] at hv hr; exact ⟨b2, c2, hv, hr⟩
  obtain ⟨b2, c2, rfl, hr2⟩ := hRow
  have hge1 := hr4.from_; have hge2 := hr2.from_; have hlt2 := hr2.lt
  have hsg := HG3.out.size; have hsg4 := hg4.size
  have HW1 := Lib.hid (hr4.lower hsg); have HW2 := Lib.hid (hr2.lower (Nat.le_trans hsg hBv))
  have HD4 := Lib.hid (HD3.out.keptN hg4); have HG4 := Lib.hid (grown_trans HG3.out (grown_some hg4)); have HR4 := Lib.hid (HR3.out.kept (fun k hk => hg4.block k (by have := HR3.out.lt; have := HR3.out.from_; omega) (by simp)) (hg4.block B HR3.out.lt (by simp)))
  clear hr4 hL hg4 hr2
  have hs5 : (w4.alloc (.cells #[.int .i64 f, .slice (some ⟨b1, 0, none⟩) n c1, .slice (some ⟨b2, 0, none⟩) m c2] 91)).heap.size = w4.heap.size + 1 := by show (w4.heap.push _).size = _; simp
  have w5R := Lib.hid (HR4.out.alloc (.cells #[.int .i64 f, .slice (some ⟨b1, 0, none⟩) n c1, .slice (some ⟨b2, 0, none⟩) m c2] 91))
  have w5H := Lib.hid (show HeldD w base B a len cap p (p + 2) w.heap.size w4.heap.size f b1 n c1 b2 m c2 (w4.alloc (.cells #[.int .i64 f, .slice (some ⟨b1, 0, none⟩) n c1, .slice (some ⟨b2, 0, none⟩) m c2] 91)) from
    ⟨HD4.out.keptN (grown_alloc _ _ _), Blk.new _ _ _, ⟨_, HW1.out.alloc _⟩, ⟨_, HW2.out.alloc _, fun j hj => shl_ok hj⟩, Nat.le_refl _, by have := HD3.out.lt; omega, by omega, by omega, hB, grown_trans HG4.out (grown_alloc _ _ _), p + 1 + 1, by omega, by omega, w5R.out⟩)
  clear hs0 hs1 hs2 hs3 hge1 hge2 hsg hsg4 hBv
  go_wp2_with fail
  refine (pick_any _ base B a len cap _ 4 w5R.out (by omega) (by omega)).mono ?_
  rintro e w6 ⟨t, t0, t1, rfl, hr, hg, hs⟩
  have w6H := Lib.hid (w5H.out.step (hi' := p + 3) hg hr (by omega) (by omega)); have w6R := Lib.hid hr
  clear hr hg hs
  obtain ⟨j0, j1, j2, g0, g1, g2⟩ := w6H.out.d1.all
  rcases (by omega : t = 0 ∨ 1 ≤ t) with rfl | ht
  · have w6D := Lib.hid (w6R.out.kept (w' := w6.drew) (fun _ _ => rfl) rfl)
    go_wp2_with fail
    go_region_held3 (fun w' => w'.cell? ⟨w4.heap.size, 2, none⟩ = some (.slice (some ⟨b2, 0, none⟩) m c2)) (first | exact hS6 | exact hS5 | exact hS4 | exact j2) (first
      | (go_at_call 39; (with_reducible refine (pick_any _ base B a len cap _ 23 waR.out (by omega) (by omega)).mono ?_); rintro e wb ⟨s, s0, s1, rfl, hr, hg, hs⟩; have wbH := Lib.hid (waH.out.step (hi' := p + 5) hg hr (by omega) (by omega)); obtain ⟨zy, hrw, _⟩ := wbH.out.r2; have t0 := hrw.cell hrn; have t1 := hrw.frozen rn; have t2 := hrw.le; have wcH := Lib.hid (wbH.out.set2 rn s (fok_mk s0 (by omega))); have wcR := Lib.hid (hr.grown (grown_set wb b2 rn (.int .i64 s)) (by have := wbH.out.oB; have := wbH.out.o0; have := wbH.out.o1; have := wbH.out.o2; omega)); have hS5 : wb.cell? ⟨w4.heap.size, 2, none⟩ = some (.slice (some ⟨b2, 0, none⟩) m c2) := wbH.out.d1.cell 2; have hS6 : (wb.setCell ⟨b2, rn, none⟩ (.int .i64 s)).cell? ⟨w4.heap.size, 2, none⟩ = some (.slice (some ⟨b2, 0, none⟩) m c2) := wcH.out.d1.cell 2; clear hrw hr hg hs)
      | (go_at_call 39; (with_reducible refine (pick_any _ base B a len cap _ (m : Int) w6D.out (by omega) (by omega)).mono ?_); rintro e wa ⟨r, r0, r1, rfl, hr, hg, hs⟩; have waH := Lib.hid (w6H.out.step (hi' := p + 4) ⟨hg.os, hg.tape, hg.output, hg.size, hg.block⟩ hr (by omega) (by omega)); have waR := Lib.hid hr; obtain ⟨rn, rfl⟩ : ∃ rn : Nat, r = rn := ⟨r.toNat, by omega⟩; have hrn : rn < m := (by omega); have hS4 : wa.cell? ⟨w4.heap.size, 2, none⟩ = some (.slice (some ⟨b2, 0, none⟩) m c2) := waH.out.d1.cell 2; clear hr hg hs))
    all_goals
      clear t0 t1 hS4 hS5 hS6 j0 j1 j2 g0 g1 g2
      go_wp2_with fail
      refine (pick_any _ base B a len cap _ 24 wcR.out (by omega) (by omega)).mono ?_
      rintro e w7 ⟨u, u0, u1, rfl, hr, hg, hs⟩
      have w7H := Lib.hid (wcH.out.step (hi' := p + 6) hg hr (by omega) (by omega)); have w7R := Lib.hid hr
      clear hr hg hs
      obtain ⟨j0, j1, j2, g0, g1, g2⟩ := w7H.out.d1.all
      rcases (by omega : u = 0 ∨ 1 ≤ u) with rfl | hu
      · have w7D := Lib.hid (w7R.out.kept (w' := w7.drew) (fun _ _ => rfl) rfl)
        go_wp2_with fail
        go_region_held3 (fun w' => w'.cell? ⟨w4.heap.size, 1, none⟩ = some (.slice (some ⟨b1, 0, none⟩) n c1)) (first | exact hS9 | exact hS8 | exact hS7 | exact j1) (first
          | (go_at_call 83; (with_reducible refine (grp_any _ base B a len cap _ w8R.out (by omega)).mono ?_); rintro e w9 ⟨v, v0, v1, rfl, hg, p9, r1, r2, hr⟩; have w9H := Lib.hid (w8H.out.step (hi' := p + 9) hg hr (by omega) (by omega)); obtain ⟨zz, hrw⟩ := w9H.out.r1; have t0 := hrw.cell hqn; have t1 := hrw.frozen qn; have t2 := hrw.le; have wLH := Lib.hid (w9H.out.set1 qn v); have hS8 : w9.cell? ⟨w4.heap.size, 1, none⟩ = some (.slice (some ⟨b1, 0, none⟩) n c1) := w9H.out.d1.cell 1; have hS9 : (w9.setCell ⟨b1, qn, none⟩ (.int .i64 v)).cell? ⟨w4.heap.size, 1, none⟩ = some (.slice (some ⟨b1, 0, none⟩) n c1) := wLH.out.d1.cell 1; clear hrw hr hg)
          | (go_at_call 39; (with_reducible refine (pick_any _ base B a len cap _ (n : Int) w7D.out (by omega) (by omega)).mono ?_); rintro e w8 ⟨q, q0, q1, rfl, hr, hg, hs⟩; have w8H := Lib.hid (w7H.out.step (hi' := p + 7) ⟨hg.os, hg.tape, hg.output, hg.size, hg.block⟩ hr (by omega) (by omega)); have w8R := Lib.hid hr; obtain ⟨qn, rfl⟩ : ∃ qn : Nat, q = qn := ⟨q.toNat, by omega⟩; have hqn : qn < n := (by omega); have hS7 : w8.cell? ⟨w4.heap.size, 1, none⟩ = some (.slice (some ⟨b1, 0, none⟩) n c1) := w8H.out.d1.cell 1; clear hr hg hs))
        all_goals
          clear t0 t1 hS7 hS8 hS9 j0 j1 j2 g0 g1 g2
          obtain ⟨hends, hdr⟩ := wLH.out.ends (k := 9)
          obtain ⟨e0, e1, e2, e3, e4, e5⟩ := wLH.out.d0.all
          obtain ⟨j0, j1, j2, g0, g1, g2⟩ := wLH.out.d1.all
          have HE := Lib.hid hends; have HDr := Lib.hid hdr; clear hends hdr
          go_wp2
          (try simp only [Exit.inBlock, Exit.then])
          refine bodyPost_ret (ret_deal rfl _ rfl HE.out) rfl ?_
          exact HDr.out
      · have hu0 : (u == 0) = false := by simp; omega
        have wLH := Lib.hid (HeldD.step (hi' := p + 9) w7H.out (grown_refl _ _) w7R.out (by omega) (by omega))
        clear j0 j1 j2 g0 g1 g2
        obtain ⟨hends, hdr⟩ := wLH.out.ends (k := 9)
        obtain ⟨e0, e1, e2, e3, e4, e5⟩ := wLH.out.d0.all
        obtain ⟨j0, j1, j2, g0, g1, g2⟩ := wLH.out.d1.all
        have HE := Lib.hid hends; have HDr := Lib.hid hdr; clear hends hdr
        go_wp2
        (try simp only [Exit.inBlock, Exit.then])
        refine bodyPost_ret (ret_deal rfl _ rfl HE.out) rfl ?_
        exact HDr.out
  · have ht0 : (t == 0) = false := by simp; omega
    clear j0 j1 j2 g0 g1 g2
    go_wp2_with fail
    refine (pick_any _ base B a len cap _ 24 w6R.out (by omega) (by omega)).mono ?_
    rintro e w7 ⟨u, u0, u1, rfl, hr, hg, hs⟩
    have w7H := Lib.hid (w6H.out.step (hi' := p + 4) hg hr (by omega) (by omega)); have w7R := Lib.hid hr
    clear hr hg hs
    obtain ⟨j0, j1, j2, g0, g1, g2⟩ := w7H.out.d1.all
    rcases (by omega : u = 0 ∨ 1 ≤ u) with rfl | hu
    · have w7D := Lib.hid (w7R.out.kept (w' := w7.drew) (fun _ _ => rfl) rfl)
      go_wp2_with fail
      go_region_held3 (fun w' => w'.cell? ⟨w4.heap.size, 1, none⟩ = some (.slice (some ⟨b1, 0, none⟩) n c1)) (first | exact hS9 | exact hS8 | exact hS7 | exact j1) (first
        | (go_at_call 83; (with_reducible refine (grp_any _ base B a len cap _ w8R.out (by omega)).mono ?_); rintro e w9 ⟨v, v0, v1, rfl, hg, p9, r1, r2, hr⟩; have w9H := Lib.hid (w8H.out.step (hi' := p + 9) hg hr (by omega) (by omega)); obtain ⟨zz, hrw⟩ := w9H.out.r1; have t0 := hrw.cell hqn; have t1 := hrw.frozen qn; have t2 := hrw.le; have wLH := Lib.hid (w9H.out.set1 qn v); have hS8 : w9.cell? ⟨w4.heap.size, 1, none⟩ = some (.slice (some ⟨b1, 0, none⟩) n c1) := w9H.out.d1.cell 1; have hS9 : (w9.setCell ⟨b1, qn, none⟩ (.int .i64 v)).cell? ⟨w4.heap.size, 1, none⟩ = some (.slice (some ⟨b1, 0, none⟩) n c1) := wLH.out.d1.cell 1; clear hrw hr hg)
        | (go_at_call 39; (with_reducible refine (pick_any _ base B a len cap _ (n : Int) w7D.out (by omega) (by omega)).mono ?_); rintro e w8 ⟨q, q0, q1, rfl, hr, hg, hs⟩; have w8H := Lib.hid (w7H.out.step (hi' := p + 5) ⟨hg.os, hg.tape, hg.output, hg.size, hg.block⟩ hr (by omega) (by omega)); have w8R := Lib.hid hr; obtain ⟨qn, rfl⟩ : ∃ qn : Nat, q = qn := ⟨q.toNat, by omega⟩; have hqn : qn < n := (by omega); have hS7 : w8.cell? ⟨w4.heap.size, 1, none⟩ = some (.slice (some ⟨b1, 0, none⟩) n c1) := w8H.out.d1.cell 1; clear hr hg hs))
      all_goals
        clear t0 t1 hS7 hS8 hS9 j0 j1 j2 g0 g1 g2
        obtain ⟨hends, hdr⟩ := wLH.out.ends (k := 9)
        obtain ⟨e0, e1, e2, e3, e4, e5⟩ := wLH.out.d0.all
        obtain ⟨j0, j1, j2, g0, g1, g2⟩ := wLH.out.d1.all
        have HE := Lib.hid hends; have HDr := Lib.hid hdr; clear hends hdr
        go_wp2
        (try simp only [Exit.inBlock, Exit.then])
        refine bodyPost_ret (ret_deal rfl _ rfl HE.out) rfl ?_
        exact HDr.out
    · have hu0 : (u == 0) = false := by simp; omega
      have wLH := Lib.hid (HeldD.step (hi' := p + 9) w7H.out (grown_refl _ _) w7R.out (by omega) (by omega))
      clear j0 j1 j2 g0 g1 g2
      obtain ⟨hends, hdr⟩ := wLH.out.ends (k := 9)
      obtain ⟨e0, e1, e2, e3, e4, e5⟩ := wLH.out.d0.all
      obtain ⟨j0, j1, j2, g0, g1, g2⟩ := wLH.out.d1.all
      have HE := Lib.hid hends; have HDr := Lib.hid hdr; clear hends hdr
      go_wp2
      (try simp only [Exit.inBlock, Exit.then])
      refine bodyPost_ret (ret_deal rfl _ rfl HE.out) rfl ?_
      exact HDr.out
end Draw
end Go.Proofs.Ytchgjdbmianajaa
/-
  How the model draws a deal that may be spoilt, with how many are needed, and of how many.
-/

namespace Go.Proofs.Ytchgjdbmianajaa
namespace Draw
open Go.RowKit Alg Mem Con
set_option linter.unusedVariables false

theorem ret_deal3 {fn : Func} {p u v : Tmp} (h : fn.results = #[.cell p 91, .tmp u, .tmp v]) (tmps : Array Value) {w : World} {b : Nat} {v0 v1 v2 : Value} {T : TypeId} (hp : tmps.getD p undef = .pointer (some ⟨b, 0, none⟩)) (hb : Blk w b #[v0, v1, v2] T) :
    (results fn tmps).run Try.prog w = .ok (.tuple #[.agg #[v0, v1, v2], tmps.getD u undef, tmps.getD v undef]) w := by
  have hp' : tmps[p]?.getD undef = .pointer (some ⟨b, 0, none⟩) := by simpa using hp
  simp [results, h, hp', asAddr, run_loadVar_row w b T 91 #[v0, v1, v2] (0, 0) _ hb Try.underlying91 rfl size_deal, Result.andThen]
/-- What holds while a deal lies in a drawing function of its own: all blocks new, and apart. -/
structure HeldE (w : World) (base B : Nat) (a : Option Addr) (len cap lo hi D0 D1 : Nat) (f : Int) (b1 n c1 b2 m c2 : Nat) (wr : World) : Prop where
  d0 : Blk wr D0 #[.int .i64 0, .slice none 0 0, .slice none 0 0] 91
  d1 : Blk wr D1 #[.int .i64 f, .slice (some ⟨b1, 0, none⟩) n c1, .slice (some ⟨b2, 0, none⟩) m c2] 91
  r1 : ∃ z1, Row wr w.heap.size 3 b1 n c1 z1
  r2 : ∃ z2, Row wr w.heap.size 3 b2 m c2 z2
  o0 : w.heap.size ≤ D0
  oB : w.heap.size ≤ B
  o1 : w.heap.size ≤ D1
  ne : D0 ≠ B ∧ D1 ≠ B ∧ b1 ≠ B ∧ b2 ≠ B ∧ b1 ≠ b2 ∧ b1 ≠ D0 ∧ b2 ≠ D0 ∧ b1 ≠ D1 ∧ b2 ≠ D1 ∧ D0 ≠ D1
  g : w.grownBy wr none
  rd : ∃ p', lo ≤ p' ∧ p' ≤ hi ∧ Rd wr base B a len cap p'
theorem HeldE.step {w : World} {base B : Nat} {a : Option Addr} {len cap lo hi D0 D1 : Nat} {f : Int} {b1 n c1 b2 m c2 : Nat} {wr : World} {hi' p' : Nat} {w' : World} (h : HeldE w base B a len cap lo hi D0 D1 f b1 n c1 b2 m c2 wr)
    (hg : wr.grownBy w' (some B)) (hrd : Rd w' base B a len cap p') (h1 : lo ≤ p') (h2 : p' ≤ hi') : HeldE w base B a len cap lo hi' D0 D1 f b1 n c1 b2 m c2 w' := by
  obtain ⟨d0, d1, ⟨z1, r1⟩, ⟨z2, r2⟩, o0, oB, o1, ne, g, rd⟩ := h
  exact ⟨d0.kept hg (by intro e; have e := Option.some.inj e; omega), d1.kept hg (by intro e; have e := Option.some.inj e; omega), ⟨z1, r1.kept hg (by intro e; have e := Option.some.inj e; omega)⟩, ⟨z2, r2.kept hg (by intro e; have e := Option.some.inj e; omega)⟩, o0, oB, o1, ne, grown_new g oB hg, p', h1, h2, hrd⟩
theorem Rd.grownN {w w' : World} {base B b : Nat} {a : Option Addr} {len cap p : Nat} (h : Rd w base B a len cap p) (hg : w.grownBy w' (some b)) (hb : b ≠ B) (hbb : base ≤ b) : Rd w' base B a len cap p :=
  h.kept (fun k hk => hg.block k (by have := h.lt; have := h.from_; omega) (by intro e; injection e with e; omega)) (hg.block B h.lt (by intro e; injection e with e; omega))
theorem HeldE.set2 {w : World} {base B : Nat} {a : Option Addr} {len cap lo hi D0 D1 : Nat} {f : Int} {b1 n c1 b2 m c2 : Nat} {wr : World} (h : HeldE w base B a len cap lo hi D0 D1 f b1 n c1 b2 m c2 wr) (hb : base ≤ w.heap.size) (j : Nat) (u : Int) :
    HeldE w base B a len cap lo hi D0 D1 f b1 n c1 b2 m c2 (wr.setCell ⟨b2, j, none⟩ (.int .i64 u)) := by
  obtain ⟨d0, d1, ⟨z1, r1⟩, ⟨z2, r2⟩, o0, oB, o1, ne, g, p', q1, q2, hrd⟩ := h
  have hg := grown_set wr b2 j (.int .i64 u)
  have hf2 := r2.from_
  exact ⟨d0.other (by omega), d1.other (by omega), ⟨z1, r1.kept hg (by intro e; have e := Option.some.inj e; omega)⟩, ⟨_, r2.set j u⟩, o0, oB, o1, ne, grown_new g hf2 hg, p', q1, q2, hrd.grownN hg (by omega) (by omega)⟩
/-- What a function leaves that draws a deal and two numbers. -/
def GotD (w : World) (k1 k2 : Nat) (e : Ending) (w' : World) : Prop :=
  ∃ (f : Int) (b1 n c1 : Nat) (z1 : Nat → Int) (b2 m c2 : Nat) (z2 : Nat → Int) (need many : Int), e = .returned (.tuple #[.agg #[.int .i64 f, .slice (some ⟨b1, 0, none⟩) n c1, .slice (some ⟨b2, 0, none⟩) m c2], .int .i64 need, .int .i64 many]) ∧ n ≤ k1 ∧ m ≤ k2 ∧ n ≤ c1 ∧ c1 ≤ maxLen ∧ m ≤ c2 ∧ c2 ≤ maxLen ∧
    1 ≤ need ∧ need ≤ 5 ∧ 1 ≤ many ∧ many ≤ 5 ∧ Ints w' (some ⟨b1, 0, none⟩) n z1 ∧ Ints w' (some ⟨b2, 0, none⟩) m z2 ∧ w.grownBy w' none
theorem HeldE.ends {w : World} {base B : Nat} {a : Option Addr} {len cap lo hi D0 D1 : Nat} {f : Int} {b1 n c1 b2 m c2 : Nat} {wr : World} (h : HeldE w base B a len cap lo hi D0 D1 f b1 n c1 b2 m c2 wr) {k1 k2 : Nat} {need many : Int} (h1 : n ≤ k1) (h2 : m ≤ k2) (hn : 1 ≤ need ∧ need ≤ 5 ∧ 1 ≤ many ∧ many ≤ 5) :
    Blk (stored wr D0 (.int .i64 f) (.slice (some ⟨b1, 0, none⟩) n c1) (.slice (some ⟨b2, 0, none⟩) m c2)) D0 #[.int .i64 f, .slice (some ⟨b1, 0, none⟩) n c1, .slice (some ⟨b2, 0, none⟩) m c2] 91 ∧
    GotD w k1 k2 (.returned (.tuple #[.agg #[.int .i64 f, .slice (some ⟨b1, 0, none⟩) n c1, .slice (some ⟨b2, 0, none⟩) m c2], .int .i64 need, .int .i64 many])) (stored wr D0 (.int .i64 f) (.slice (some ⟨b1, 0, none⟩) n c1) (.slice (some ⟨b2, 0, none⟩) m c2)) := by
  obtain ⟨d0, d1, ⟨z1, r1⟩, ⟨z2, r2⟩, o0, oB, o1, ne, g, rd⟩ := h
  have g0 := grown_set wr D0 0 (.int .i64 f)
  have g1 := gtr' g0 (grown_set _ D0 1 (.slice (some ⟨b1, 0, none⟩) n c1))
  have g2 := gtr' g1 (grown_set _ D0 2 (.slice (some ⟨b2, 0, none⟩) m c2))
  have q1 := r1.kept g2 (by intro e; have e := Option.some.inj e; omega)
  have q2 := r2.kept g2 (by intro e; have e := Option.some.inj e; omega)
  exact ⟨((d0.set 0 _).set 1 _).set 2 _, f, b1, n, c1, z1, b2, m, c2, z2, need, many, rfl, h1, h2, r1.le, r1.most, r2.le, r2.most, hn.1, hn.2.1, hn.2.2.1, hn.2.2.2, q1.ints, q2.ints, grown_new g o0 g2⟩
theorem fine_any (w : World) (base B : Nat) (a : Option Addr) (len cap p : Nat) (h : Rd w base B a len cap p) (hp : p ≤ 10000000) :
    Calls Try.prog 62 #[.pointer (some ⟨B, 0, none⟩)] w fun e w' => ∃ n m : Nat, e = .returned (.tuple #[.int .i64 n, .int .i64 m]) ∧ 1 ≤ n ∧ n ≤ m ∧ m ≤ 5 ∧ w.grownBy w' (some B) ∧ Rd w' base B a len cap (p + 1 + 1) := by
  go_enter Try.func62, Try.ntmps62
  go_wp2_with fail
  refine (pick_any _ base B a len cap p 5 h (by omega) (by omega)).mono ?_
  rintro e w1 ⟨x, x0, x1, rfl, hr1, hg1, hs1⟩
  obtain ⟨xn, rfl⟩ : ∃ xn : Nat, x = xn := ⟨x.toNat, by omega⟩
  have HG1 := Lib.hid hg1; clear hg1 hs1
  go_wp2_with fail
  refine (pick_any _ base B a len cap (p + 1) (1 + (xn : Int)) hr1 (by omega) (by omega)).mono ?_
  rintro e w2 ⟨y, y0, y1, rfl, hr2, hg2, hs2⟩
  obtain ⟨yn, rfl⟩ : ∃ yn : Nat, y = yn := ⟨y.toNat, by omega⟩
  have HG2 := Lib.hid (grown_trans HG1.out hg2); have HR2 := Lib.hid hr2; clear hg2 hs2 hr2
  go_wp2_with fail
  go_ret2
  exact ⟨1 + yn, 1 + xn, by first | rfl | simp, by omega, by omega, by omega, HG2.out, HR2.out⟩

end Draw
end Go.Proofs.Ytchgjdbmianajaa
/-
  The words of the exact laws that take a deal: its size, the deal anew, whether two deals read alike, and a deal marked.
-/

namespace Go.Proofs.Ytchgjdbmianajaa
namespace Con
open Go.RowKit Alg Mem
set_option linter.unusedVariables false

/-- A deal of the call's own: two rows, one ahead of the other. -/
def DealO (w : World) (f : Int) (n1 : Nat) (z1 : Nat → Int) (n2 : Nat) (z2 : Nat → Int) (e : Ending) (w' : World) : Prop :=
  ∃ b1 b2 : Nat, e = .returned (.agg #[.int .i64 f, .slice (some ⟨b1, 0, none⟩) n1 n1, .slice (some ⟨b2, 0, none⟩) n2 n2]) ∧ b1 < b2 ∧ Row w' w.heap.size 3 b1 n1 n1 z1 ∧ Row w' w.heap.size 3 b2 n2 n2 z2 ∧ w.grownBy w' none
theorem blk_new2 (w : World) (o1 : Obj) (vs : Array Value) (T : TypeId) : Blk ((w.alloc o1).alloc (.cells vs T)) (w.heap.size + 1) vs T := by
  have h := Blk.new (w.alloc o1) vs T
  rw [show (w.alloc o1).heap.size = w.heap.size + 1 by show (w.heap.push _).size = _; simp] at h
  exact h
theorem blk_new3 (w : World) (o1 o2 : Obj) (vs : Array Value) (T : TypeId) : Blk (((w.alloc o1).alloc o2).alloc (.cells vs T)) (w.heap.size + 1 + 1) vs T := by
  have h := Blk.new ((w.alloc o1).alloc o2) vs T
  rw [show ((w.alloc o1).alloc o2).heap.size = w.heap.size + 1 + 1 by show ((w.heap.push _).push _).size = _; simp] at h
  exact h
theorem size3 (w : World) (o1 o2 o3 : Obj) : (((w.alloc o1).alloc o2).alloc o3).heap.size = w.heap.size + 1 + 1 + 1 := by show (((w.heap.push _).push _).push _).size = _; simp
end Con
end Go.Proofs.Ytchgjdbmianajaa
