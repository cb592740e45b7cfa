/-
  Texts and rules in the words of the exact laws: measured, copied, compared, and as they come in.
-/
import Derived.Test.YthbigmcklacbnaaYg
import Derived.Test.YthbigmcklacbnaaWk
import Derived.SliceStrings
namespace Go.Proofs.Ythbigmcklacbnaa
namespace Po
open Go.RowKit Alg Mem Con Draw Mp
set_option linter.unusedVariables false

theorem szstrs (w : World) (a : Option Addr) (n c : Nat) (R : Nat → ByteArray) (left : Int) (h0 : 0 ≤ left) (h1 : left ≤ 2000000) (hI : StrI w a n R) (hn : n ≤ maxLen) (hz : ∀ j, j < n → (R j).size ≤ maxLen) :
    Calls Try.prog 36 #[.slice a n c, .int .i64 left] w fun e w' => ∃ r : Int, e = .returned (.int .i64 r) ∧ w.grownBy w' none ∧ (r = -1 ∨ (0 ≤ r ∧ r ≤ left ∧ n ≤ 2000000)) := by
  have hn' := hn
  unfold maxLen at hn'
  by_cases hlt : left - (n : Int) < 0
  · clear hI
    go_enter Try.func36, Try.ntmps36
    go_wp2
    go_ret
    exact ⟨_, rfl, Draw.grown_refl _ _, .inl rfl⟩
  · have HZ := Lib.hid hz; clear hz
    go_enter Try.func36, Try.ntmps36
    go_wp2
    go_loop [1, 5] (fun v i => ∃ (k : Nat) (x : Int), k ≤ n ∧ i = .int .i64 k ∧ v = .int .i64 x ∧ 0 ≤ x ∧ x ≤ left) (fun _ i => n - (intOf i).toNat)
    case atStart => exact ⟨0, left - n, by omega, rfl, rfl, by omega, by omega⟩
    case round =>
      obtain ⟨k, x, hk, rfl, rfl, hx0, hx1⟩ := hrel
      by_cases hkn : k < n
      · obtain ⟨b, off, rfl, hb, hc⟩ := hI.ptr (by omega)
        have c0 := hc k hkn
        have hs := HZ.out k hkn
        unfold maxLen at hs
        clear hc
        generalize R k = rk at *
        by_cases hxs : x - (rk.size : Int) < 0
        · go_wp2
          go_ret
          exact ⟨_, rfl, Draw.grown_refl _ _, .inl rfl⟩
        · go_wp2
          go_round
          case rel => exact ⟨k + 1, x - (rk.size : Int), by omega, by go_num, by go_num, by omega, by omega⟩
          case measure => simp [intOf]; omega
      · obtain rfl : k = n := by omega
        go_wp2
        go_ret
        exact ⟨x, rfl, Draw.grown_refl _ _, .inr ⟨hx0, hx1, by omega⟩⟩
theorem szrule1 (w : World) (r : ByteArray) (m x left : Int) (h0 : 0 ≤ left) (h1 : left ≤ 2000000) (hr : r.size ≤ maxLen) :
    Calls Try.prog 77 #[.agg #[.string r, .int .i64 m, .int .i64 x], .int .i64 left] w fun e w' => ∃ q : Int, e = .returned (.int .i64 q) ∧ w.grownBy w' none ∧ (q = -1 ∨ (0 ≤ q ∧ q ≤ left)) := by
  unfold maxLen at hr
  have G := Lib.hid (Draw.grown_alloc w (.cells #[.string r, .int .i64 m, .int .i64 x] 100) none)
  by_cases hlt : left - (r.size : Int) < 0
  · go_enter Try.func77, Try.ntmps77
    go_wp2
    go_ret
    exact ⟨_, rfl, G.out, .inl rfl⟩
  · go_enter Try.func77, Try.ntmps77
    go_wp2
    go_ret
    exact ⟨left - (r.size : Int), rfl, G.out, .inr ⟨by omega, by omega⟩⟩
theorem szrules (w : World) (a : Option Addr) (n c : Nat) (U : Nat → RV) (left : Int) (h0 : 0 ≤ left) (h1 : left ≤ 2000000) (hI : RuI w a n U) (hn : n ≤ maxLen) (hz : ∀ j, j < n → (U j).r.size ≤ maxLen) :
    Calls Try.prog 37 #[.slice a n c, .int .i64 left] w fun e w' => ∃ r : Int, e = .returned (.int .i64 r) ∧ w.grownBy w' none ∧ (r = -1 ∨ (0 ≤ r ∧ r ≤ left ∧ n ≤ 2000000)) := by
  have hn' := hn
  unfold maxLen at hn'
  by_cases hlt : left - (n : Int) < 0
  · clear hI
    go_enter Try.func37, Try.ntmps37
    go_wp2
    go_ret
    exact ⟨_, rfl, Draw.grown_refl _ _, .inl rfl⟩
  · have HZ := Lib.hid hz; have HI := Lib.hid hI; clear hz hI
    go_enter Try.func37, Try.ntmps37
    go_wp2
    go_loopw [1, 5] (fun v i wr => ∃ (k : Nat) (x : Int), k ≤ n ∧ i = .int .i64 k ∧ v = .int .i64 x ∧ 0 ≤ x ∧ x ≤ left ∧ w.grownBy wr none) (fun _ i _ => n - (intOf i).toNat)
    case atStart => exact ⟨0, left - n, by omega, rfl, rfl, by omega, by omega, Draw.grown_refl _ _⟩
    case round =>
      obtain ⟨k, x, hk, rfl, rfl, hx0, hx1, hg⟩ := hrel
      have G := Lib.hid hg; clear hg
      by_cases hkn : k < n
      · obtain ⟨b, off, rfl, hb, hc⟩ := (HI.out.kept G.out).ptr (by omega)
        obtain ⟨c0, c1, c2⟩ := hc k hkn
        have hs := HZ.out k hkn
        clear hc
        generalize U k = rk at *
        go_wp2_with fail
        refine (szrule1 _ _ _ _ x hx0 (by omega) hs).mono ?_
        rintro e w2 ⟨y, rfl, hg, hy⟩
        have G2 := Lib.hid (gtr G.out hg); clear hg
        rcases hy with rfl | ⟨hy0, hy1⟩
        · go_wp2
          go_ret
          exact ⟨_, rfl, G2.out, .inl rfl⟩
        · have hny : ¬ y < 0 := by omega
          go_wp2
          go_roundw
          case rel => exact ⟨k + 1, y, by omega, by go_num, rfl, by omega, by omega, G2.out⟩
          case measure => simp [intOf]; omega
      · obtain rfl : k = n := by omega
        go_wp2
        go_ret
        exact ⟨x, rfl, G.out, .inr ⟨hx0, hx1, by omega⟩⟩
/-- A slice of texts of the call's own. -/
structure RowS (w : World) (lo : Nat) (b n : Nat) (g : Nat → ByteArray) : Prop where
  from_ : lo ≤ b
  row : w.rowIs b 9 n (fun i => .string (g i))
theorem RowS.lt {w : World} {lo b n : Nat} {g : Nat → ByteArray} (h : RowS w lo b n g) : b < w.heap.size := h.row.lt
theorem RowS.keptN {w w' : World} {lo b n : Nat} {g : Nat → ByteArray} (h : RowS w lo b n g) (hg : w.grownBy w' none) : RowS w' lo b n g := ⟨h.from_, h.row.of_block (hg.block b h.lt (by simp))⟩
theorem RowS.str {w : World} {lo b n : Nat} {g : Nat → ByteArray} (h : RowS w lo b n g) : StrI w (some ⟨b, 0, none⟩) n g := .inr ⟨b, 0, rfl, h.lt, fun j hj => by rw [Nat.zero_add]; exact h.row.cell hj⟩
theorem RowS.congr {w : World} {lo b n : Nat} {g g' : Nat → ByteArray} (h : RowS w lo b n g) (e : ∀ j, j < n → g j = g' j) : RowS w lo b n g' := ⟨h.from_, h.row.congr fun i hi => by rw [e i hi]⟩
theorem RowS.made (w : World) (n : Nat) : RowS (w.alloc (.cells (madeCells #[.string ⟨#[]⟩] n) 9)) w.heap.size w.heap.size n (fun _ => ⟨#[]⟩) := ⟨Nat.le_refl _, World.rowIs_made w _ n _⟩
theorem run_make1s {P : Program} (t e : TypeId) (bytes : Nat) (ht : P.underlying t = some (.slice e)) (hinfo : (P.info? e).map (fun i => (i.zero, i.size, i.bytes)) = some (some (.string ⟨#[]⟩), 1, bytes))
    (kl kc : IntKind) (n : Nat) (hbytes : bytes * n ≤ 281474976710656) (h63 : n ≤ 9223372036854775807) (w : World) :
    (Instr.makeSlice t (.int kl (n : Int)) (.int kc (n : Int))).run P w = .ok (.slice (some ⟨w.heap.size, 0, none⟩) n n) (w.alloc (.cells (madeCells #[.string ⟨#[]⟩] n) e)) := by
  obtain ⟨i, hi, hzz⟩ := Option.map_eq_some_iff.1 hinfo
  simp only [Prod.mk.injEq] at hzz
  obtain ⟨hz, hs, hb⟩ := hzz
  have hb' : (i.bytes : Int) * (n : Int) ≤ 281474976710656 := by
    have h : ((i.bytes * n : Nat) : Int) ≤ 281474976710656 := by rw [hb]; omega
    rwa [Int.natCast_mul] at h
  have hr := run_make (P := P) w t e i _ ht hi hz kl kc n n (by omega) (Int.le_refl _) hb' (by omega)
  simp only [Int.toNat_natCast, hs, Nat.mul_one] at hr
  exact hr
def NewStr (w : World) (n : Nat) (R : Nat → ByteArray) (e : Ending) (w' : World) : Prop :=
  ∃ b : Nat, e = .returned (.slice (some ⟨b, 0, none⟩) n n) ∧ RowS w' w.heap.size b n R ∧ w.grownBy w' none
set_option maxHeartbeats 2000000 in
theorem tostrs (w : World) (a : Option Addr) (len cap : Nat) (R : Nat → ByteArray) (hI : StrI w a len R) (hl : len ≤ 2000000) :
    Calls Try.prog 38 #[.slice a len cap] w (NewStr w len R) := by
  have hmk := run_make1s (P := Try.prog) 23 9 16 und_strs info_strg .i64 .i64 len (by omega) (by omega)
  have HI := Lib.hid hI; clear hI
  go_enter Try.func38, Try.ntmps38
  go_wp2
  go_loopw [4] (fun i wr => ∃ k : Nat, k ≤ len ∧ i = .int .i64 k ∧ RowS wr w.heap.size w.heap.size len (fun j => if j < k then R j else ⟨#[]⟩) ∧ w.grownBy wr none) (fun i _ => len - (intOf i).toNat)
  case atStart => exact ⟨0, by omega, rfl, (RowS.made w _).congr fun j _ => by simp, Draw.grown_alloc _ _ _⟩
  case round =>
    clear hmk
    obtain ⟨k, hk, rfl, hr, hg⟩ := hrel
    have HG := Lib.hid hg; have HR := Lib.hid hr; clear hg hr
    by_cases hlt : k < len
    · obtain ⟨b, off, rfl, hb, hcc⟩ := (HI.out.kept HG.out).ptr (by omega)
      have c0 := hcc k hlt
      clear hcc
      have d0 := HR.out.row.cell hlt
      have f0 := HR.out.row.frozen k
      have HR2 := Lib.hid (show RowS (wr.setCell ⟨w.heap.size, k, none⟩ (.string (R k))) w.heap.size w.heap.size len (fun j => if j < k + 1 then R j else ⟨#[]⟩) from ⟨Nat.le_refl _, (HR.out.row.set k (.string (R k))).congr fun i hi => by
        by_cases e : i = k
        · subst e; simp
        · by_cases h : i < k
          · simp [e, h]; intro hh; omega
          · simp [e, h]; intro hh; omega⟩)
      have HG2 := Lib.hid (grown_new HG.out (Nat.le_refl _) (Mem.grown_set wr w.heap.size k (.string (R k))))
      go_wp2
      go_roundw
      case rel => exact ⟨k + 1, by omega, by go_num, HR2.out, HG2.out⟩
      case measure => simp [intOf]; omega
    · obtain rfl : k = len := by omega
      have HR2 := Lib.hid (HR.out.congr (g' := R) fun j hj => by simp [hj])
      go_wp2
      go_ret
      exact ⟨_, rfl, HR2.out, HG.out⟩
theorem eqstrs (w : World) (a a' : Option Addr) (len cap cap' : Nat) (R : Nat → ByteArray) (h1 : StrI w a len R) (h2 : StrI w a' len R) (hl : len ≤ 2000000) :
    Calls Try.prog 40 #[.slice a len cap, .slice a' len cap'] w fun e w' => e = .returned (.bool true) ∧ w.grownBy w' none := by
  have H1 := Lib.hid h1; have H2 := Lib.hid h2; clear h1 h2
  have hne : ((len : Int) != (len : Int)) = false := by simp
  go_enter Try.func40, Try.ntmps40
  go_wp2
  go_loopw [5] (fun i wr => ∃ k : Nat, k ≤ len ∧ i = .int .i64 k ∧ w.grownBy wr none) (fun i _ => len - (intOf i).toNat)
  case atStart => exact ⟨0, by omega, rfl, Draw.grown_refl _ _⟩
  case round =>
    obtain ⟨k, hk, rfl, hg⟩ := hrel
    have G := Lib.hid hg; clear hg
    by_cases hlt : k < len
    · obtain ⟨b, off, rfl, hb, hcc⟩ := (H1.out.kept G.out).ptr (by omega)
      have c0 := hcc k hlt
      obtain ⟨b', off', rfl, hb', hcc'⟩ := (H2.out.kept G.out).ptr (by omega)
      have d0 := hcc' k hlt
      clear hcc hcc'
      go_wp2_with fail
      refine wp_region_held_drew (S := (fun w' => w'.cell? ⟨b, off + k, none⟩ = some (.string (R k)) ∧ w'.cell? ⟨b', off' + k, none⟩ = some (.string (R k)))) (by kernel_rfl) (⟨c0, d0⟩) (fun hHeld => ?_)
      have hg := gdr wr
      replace G := Lib.hid (gtr G.out hg)
      clear hg
      generalize wr.drew = w1 at *
      refine wpAnyH_take (i := 0) (oi := ⟨some 17, _, _, _, _, _⟩) (v := ?_) rfl (by kernel_rfl) (by kernel_rfl) (by kernel_rfl) (fun _ _ _ h => h) (Or.inl ⟨by rfl, ?_⟩) (by assumption) ?_
      rotate_left
      · intro w hSw; (try dsimp only at hSw); go_simp; try with_reducible rfl
      simp only [Act.put, List.setIfInBounds_toArray, List.set_cons_zero, List.set_cons_succ]
      refine wpAnyH_take (i := 1) (oi := ⟨some 18, _, _, _, _, _⟩) (v := ?_) rfl (by kernel_rfl) (by kernel_rfl) (by kernel_rfl) (fun _ _ _ h => h) (Or.inl ⟨by rfl, ?_⟩) (by assumption) ?_
      rotate_left
      · intro w hSw; (try dsimp only at hSw); go_simp; try with_reducible rfl
      simp only [Act.put, List.setIfInBounds_toArray, List.set_cons_zero, List.set_cons_succ]
      refine wpAnyH_take (i := 2) (oi := ⟨some 19, _, _, _, _, _⟩) (v := ?_) rfl (by kernel_rfl) (by kernel_rfl) (by kernel_rfl) (fun _ _ _ h => h) (Or.inl ⟨by rfl, ?_⟩) (by assumption) ?_
      rotate_left
      · intro w hSw; (try dsimp only at hSw); go_simp; try with_reducible rfl
      simp only [Act.put, List.setIfInBounds_toArray, List.set_cons_zero, List.set_cons_succ]
      refine wpAnyH_take (i := 3) (oi := ⟨some 20, _, _, _, _, _⟩) (v := ?_) rfl (by kernel_rfl) (by kernel_rfl) (by kernel_rfl) (fun _ _ _ h => h) (Or.inl ⟨by rfl, ?_⟩) (by assumption) ?_
      rotate_left
      · intro w hSw; (try dsimp only at hSw); go_simp; try with_reducible rfl
      simp only [Act.put, List.setIfInBounds_toArray, List.set_cons_zero, List.set_cons_succ]
      refine wpAnyH_take (i := 4) (oi := ⟨some 21, _, _, _, _, _⟩) (v := ?_) rfl (by kernel_rfl) (by kernel_rfl) (by kernel_rfl) (fun _ _ _ h => h) (Or.inl ⟨by rfl, ?_⟩) (by assumption) ?_
      rotate_left
      · intro w hSw; (try dsimp only at hSw); go_simp; try with_reducible rfl
      simp only [Act.put, List.setIfInBounds_toArray, List.set_cons_zero, List.set_cons_succ]
      refine wpAnyH_take (i := 5) (oi := ⟨some 22, _, _, _, _, _⟩) (v := ?_) rfl (by kernel_rfl) (by kernel_rfl) (by kernel_rfl) (fun _ _ _ h => h) (Or.inl ⟨by rfl, ?_⟩) (by assumption) ?_
      rotate_left
      · intro w hSw; (try dsimp only at hSw); go_simp; try with_reducible rfl
      simp only [Act.put, List.setIfInBounds_toArray, List.set_cons_zero, List.set_cons_succ]
      refine wpAnyH_take (i := 6) (oi := ⟨some 23, _, _, _, _, _⟩) (v := ?_) rfl (by kernel_rfl) (by kernel_rfl) (by kernel_rfl) (fun _ _ _ h => h) (Or.inl ⟨by rfl, ?_⟩) (by assumption) ?_
      rotate_left
      · intro w hSw; (try dsimp only at hSw); go_simp; try with_reducible rfl
      simp only [Act.put, List.setIfInBounds_toArray, List.set_cons_zero, List.set_cons_succ]
      refine wpAnyH_take (i := 7) (oi := ⟨some 24, _, _, _, _, _⟩) (v := ?_) rfl (by kernel_rfl) (by kernel_rfl) (by kernel_rfl) (fun _ _ _ h => h) (Or.inl ⟨by rfl, ?_⟩) (by assumption) ?_
      rotate_left
      · intro w hSw; (try dsimp only at hSw); go_simp; try with_reducible rfl
      simp only [Act.put, List.setIfInBounds_toArray, List.set_cons_zero, List.set_cons_succ]
      refine wpAnyH_take (i := 8) (oi := ⟨some 25, _, _, _, _, _⟩) (v := ?_) rfl (by kernel_rfl) (by kernel_rfl) (by kernel_rfl) (fun _ _ _ h => h) (Or.inl ⟨by rfl, ?_⟩) (by assumption) ?_
      rotate_left
      · intro w hSw; (try dsimp only at hSw); go_simp; try with_reducible rfl
      simp only [Act.put, List.setIfInBounds_toArray, List.set_cons_zero, List.set_cons_succ]
      refine wpAnyH_done (by kernel_rfl) ?_ _
      go_wp2
      go_roundw
      case rel => exact ⟨k + 1, by omega, by go_num, G.out⟩
      case measure => simp [intOf]; omega
    · obtain rfl : k = len := by omega
      go_wp2
      go_ret
      exact ⟨rfl, G.out⟩
theorem size_ruleP : (Try.prog.info? 39).map (·.size) = some 3 := by kernel_rfl
theorem ret_rule {fn : Func} {p : Tmp} (h : fn.results = #[.cell p 39]) (tmps : Array Value) {w : World} {b : Nat} {v0 v1 v2 : Value} {T : TypeId} (hp : tmps.getD p undef = .pointer (some ⟨b, 0, none⟩)) (hb : Blk w b #[v0, v1, v2] T) :
    (results fn tmps).run Try.prog w = .ok (.agg #[v0, v1, v2]) w :=
  results_cell_row h tmps w b T #[v0, v1, v2] (0, 0) _ hp hb Try.underlying39 rfl size_ruleP
set_option maxHeartbeats 2000000 in
theorem torule (w : World) (r : ByteArray) (m x : Int) :
    Calls Try.prog 78 #[.agg #[.string r, .int .i64 m, .int .i64 x]] w fun e w' => e = .returned (.agg #[.string r, .int .i64 m, .int .i64 x]) ∧ w.grownBy w' none := by
  have HR := Lib.hid ((blk_new2 w (.cells #[.string r, .int .i64 m, .int .i64 x] 100) #[.string r, .int .i64 m, .int .i64 x] 39).keptN (Draw.grown_alloc _ (.cells #[.string r, .int .i64 m, .int .i64 x] 39) none))
  have HG := Lib.hid (gtr (gtr (Draw.grown_alloc w (.cells #[.string r, .int .i64 m, .int .i64 x] 100) none) (Draw.grown_alloc _ (.cells #[.string r, .int .i64 m, .int .i64 x] 39) none)) (Draw.grown_alloc _ (.cells #[.string r, .int .i64 m, .int .i64 x] 39) none))
  go_enter Try.func78, Try.ntmps78
  go_wp2
  (try simp only [Exit.inBlock, Exit.then])
  refine bodyPost_ret (ret_rule rfl _ rfl HR.out) rfl ?_
  exact ⟨rfl, HG.out⟩
def ruT (U : Nat → RV) (j : Nat) : Tri := (.string (U j).r, .int .i64 (U j).many, .int .i64 (U j).most)
def zeR : Tri := (.string ⟨#[]⟩, .int .i64 0, .int .i64 0)
theorem row_rul {w : World} {lo : Nat} {T : TypeId} {b n : Nat} {U : Nat → RV} (h : Row3 w lo T b n (ruT U)) : RuI w (some ⟨b, 0, none⟩) n U := by
  refine .inr ⟨b, 0, rfl, h.lt, fun j hj => ?_⟩
  rw [Nat.zero_add]
  exact ⟨h.c0 hj, h.c1 hj, h.c2 hj⟩
theorem run_make3s {P : Program} (t e : TypeId) (bytes : Nat) (ht : P.underlying t = some (.slice e)) (hinfo : (P.info? e).map (fun i => (i.zero, i.size, i.bytes)) = some (some (.agg #[.string ⟨#[]⟩, .int .i64 0, .int .i64 0]), 3, bytes))
    (kl kc : IntKind) (n : Nat) (hbytes : bytes * n ≤ 281474976710656) (h63 : n ≤ 9223372036854775807) (w : World) :
    (Instr.makeSlice t (.int kl (n : Int)) (.int kc (n : Int))).run P w = .ok (.slice (some ⟨w.heap.size, 0, none⟩) n n) (w.alloc (.cells (madeCells #[.string ⟨#[]⟩, .int .i64 0, .int .i64 0] (n * 3)) e)) := by
  obtain ⟨i, hi, hzz⟩ := Option.map_eq_some_iff.1 hinfo
  simp only [Prod.mk.injEq] at hzz
  obtain ⟨hz, hs, hb⟩ := hzz
  have hb' : (i.bytes : Int) * (n : Int) ≤ 281474976710656 := by
    have h : ((i.bytes * n : Nat) : Int) ≤ 281474976710656 := by rw [hb]; omega
    rwa [Int.natCast_mul] at h
  have hr := run_make (P := P) w t e i _ ht hi hz kl kc n n (by omega) (Int.le_refl _) hb' (by omega)
  simp only [Int.toNat_natCast, hs] at hr
  exact hr
def NewRul (w : World) (n : Nat) (U : Nat → RV) (e : Ending) (w' : World) : Prop :=
  ∃ b : Nat, e = .returned (.slice (some ⟨b, 0, none⟩) n n) ∧ Row3 w' w.heap.size 39 b n (ruT U) ∧ w.grownBy w' none
set_option maxHeartbeats 2000000 in
theorem torules (w : World) (a : Option Addr) (len cap : Nat) (U : Nat → RV) (hI : RuI w a len U) (hl : len ≤ 2000000) :
    Calls Try.prog 39 #[.slice a len cap] w (NewRul w len U) := by
  have hmk := run_make3s (P := Try.prog) 34 39 32 und_rules info_rule .i64 .i64 len (by omega) (by omega)
  have HI := Lib.hid hI; clear hI
  go_enter Try.func39, Try.ntmps39
  go_wp2
  go_loopw [4] (fun i wr => ∃ k : Nat, k ≤ len ∧ i = .int .i64 k ∧ Row3 wr w.heap.size 39 w.heap.size len (fun j => if j < k then ruT U j else zeR) ∧ w.grownBy wr none) (fun i _ => len - (intOf i).toNat)
  case atStart => exact ⟨0, by omega, rfl, (Row3.made w _ len _ _ _).congr fun j _ => by simp [zeR], Draw.grown_alloc _ _ _⟩
  case round =>
    clear hmk
    obtain ⟨k, hk, rfl, hr, hg⟩ := hrel
    have HG := Lib.hid hg; have HR := Lib.hid hr; clear hg hr
    by_cases hlt : k < len
    · obtain ⟨b, off, rfl, hb, hcc⟩ := (HI.out.kept HG.out).ptr (by omega)
      obtain ⟨hc0, hc1, hc2⟩ := hcc k hlt
      clear hcc
      go_wp2_with fail
      refine (torule _ _ _ _).mono ?_
      rintro e w1 ⟨rfl, hg1⟩
      have HG1 := Lib.hid (gtr HG.out hg1); have HR1 := Lib.hid (HR.out.keptN hg1); clear hg1
      have d0 := HR1.out.c0 hlt
      have d1 := HR1.out.c1 hlt
      have d2 := HR1.out.c2 hlt
      have f0 := HR1.out.free (k * 3)
      have f1 := HR1.out.free (k * 3 + 1)
      have f2 := HR1.out.free (k * 3 + 2)
      have HR2 := Lib.hid ((HR1.out.set k (ruT U k)).congr (g' := fun j => if j < k + 1 then ruT U j else zeR) fun j hj => by
        by_cases e : j = k
        · subst e; simp
        · by_cases h : j < k
          · simp [e, h]; omega
          · simp [e, h]; omega)
      have HG2 := Lib.hid (grown_new HG1.out (Nat.le_refl _) (set3_grown w1 w.heap.size k (ruT U k)))
      go_wp2
      go_roundw
      case rel => exact ⟨k + 1, by omega, by go_num, HR2.out, HG2.out⟩
      case measure => simp [intOf]; omega
    · obtain rfl : k = len := by omega
      have HR2 := Lib.hid (HR.out.congr (g' := ruT U) fun j hj => by simp [hj])
      go_wp2
      go_ret
      exact ⟨_, rfl, HR2.out, HG.out⟩
theorem eqrule (w : World) (r : ByteArray) (m x : Int) :
    Calls Try.prog 79 #[.agg #[.string r, .int .i64 m, .int .i64 x], .agg #[.string r, .int .i64 m, .int .i64 x]] w fun e w' => e = .returned (.bool true) ∧ w.grownBy w' none := by
  have h0 : (r.toList != r.toList) = false := by simp
  have h1 : (m != m) = false := by simp
  have h2 : (x != x) = false := by simp
  go_enter Try.func79, Try.ntmps79
  go_wp2
  go_ret
  exact ⟨rfl, gtr (Draw.grown_alloc _ _ _) (Draw.grown_alloc _ _ _)⟩
set_option maxHeartbeats 4000000 in
theorem eqrules (w : World) (a a' : Option Addr) (len cap cap' : Nat) (U : Nat → RV) (h1 : RuI w a len U) (h2 : RuI w a' len U) (hl : len ≤ 2000000) :
    Calls Try.prog 41 #[.slice a len cap, .slice a' len cap'] w fun e w' => e = .returned (.bool true) ∧ w.grownBy w' none := by
  have H1 := Lib.hid h1; have H2 := Lib.hid h2; clear h1 h2
  have hne : ((len : Int) != (len : Int)) = false := by simp
  go_enter Try.func41, Try.ntmps41
  go_wp2
  go_loopw [5] (fun i wr => ∃ k : Nat, k ≤ len ∧ i = .int .i64 k ∧ w.grownBy wr none) (fun i _ => len - (intOf i).toNat)
  case atStart => exact ⟨0, by omega, rfl, Draw.grown_refl _ _⟩
  case round =>
    obtain ⟨k, hk, rfl, hg⟩ := hrel
    have G := Lib.hid hg; clear hg
    by_cases hlt : k < len
    · obtain ⟨b, off, rfl, hb, hcc⟩ := (H1.out.kept G.out).ptr (by omega)
      obtain ⟨c0, c1, c2⟩ := hcc k hlt
      obtain ⟨b', off', rfl, hb', hcc'⟩ := (H2.out.kept G.out).ptr (by omega)
      obtain ⟨d0, d1, d2⟩ := hcc' k hlt
      clear hcc hcc'
      generalize U k = rk at *
      go_wp2_with fail
      refine wp_region_held_drew (S := (fun w' => w'.cell? ⟨b, off + k * 3, none⟩ = some (.string rk.r) ∧ w'.cell? ⟨b, off + k * 3 + 1, none⟩ = some (.int .i64 rk.many) ∧ w'.cell? ⟨b, off + k * 3 + 2, none⟩ = some (.int .i64 rk.most) ∧ w'.cell? ⟨b', off' + k * 3, none⟩ = some (.string rk.r) ∧ w'.cell? ⟨b', off' + k * 3 + 1, none⟩ = some (.int .i64 rk.many) ∧ w'.cell? ⟨b', off' + k * 3 + 2, none⟩ = some (.int .i64 rk.most))) (by kernel_rfl) (⟨c0, c1, c2, d0, d1, d2⟩) (fun hHeld => ?_)
      have hg := gdr wr
      have q1 := hg.block b hb (by simp)
      have q2 := hg.block b' hb' (by simp)
      replace c0 := (World.cell?_of_block q1).trans c0; replace c1 := (World.cell?_of_block q1).trans c1; replace c2 := (World.cell?_of_block q1).trans c2
      replace d0 := (World.cell?_of_block q2).trans d0; replace d1 := (World.cell?_of_block q2).trans d1; replace d2 := (World.cell?_of_block q2).trans d2
      replace hb := Nat.lt_of_lt_of_le hb hg.size; replace hb' := Nat.lt_of_lt_of_le hb' hg.size
      clear q1 q2
      replace G := Lib.hid (gtr G.out hg)
      clear hg
      generalize wr.drew = w1 at *
      refine wpAnyH_take (i := 0) (oi := ⟨some 17, _, _, _, _, _⟩) (v := ?_) rfl (by kernel_rfl) (by kernel_rfl) (by kernel_rfl) (fun _ _ _ h => h) (Or.inl ⟨by rfl, ?_⟩) (by assumption) ?_
      rotate_left
      · intro w hSw; (try dsimp only at hSw); go_simp; try with_reducible rfl
      simp only [Act.put, List.setIfInBounds_toArray, List.set_cons_zero, List.set_cons_succ]
      refine wpAnyH_take (i := 1) (oi := ⟨some 18, _, _, _, _, _⟩) (v := ?_) rfl (by kernel_rfl) (by kernel_rfl) (by kernel_rfl) (fun _ _ _ h => h) (Or.inl ⟨by rfl, ?_⟩) (by assumption) ?_
      rotate_left
      · intro w hSw; (try dsimp only at hSw); go_simp; try with_reducible rfl
      simp only [Act.put, List.setIfInBounds_toArray, List.set_cons_zero, List.set_cons_succ]
      refine wpAnyH_take (i := 2) (oi := ⟨some 19, _, _, _, _, _⟩) (v := ?_) rfl (by kernel_rfl) (by kernel_rfl) (by kernel_rfl) (fun _ _ _ h => h) (Or.inl ⟨by rfl, ?_⟩) (by assumption) ?_
      rotate_left
      · intro w hSw; (try dsimp only at hSw); go_simp; try with_reducible rfl
      simp only [Act.put, List.setIfInBounds_toArray, List.set_cons_zero, List.set_cons_succ]
      refine wpAnyH_take (i := 3) (oi := ⟨some 20, _, _, _, _, _⟩) (v := ?_) rfl (by kernel_rfl) (by kernel_rfl) (by kernel_rfl) (fun _ _ _ h => h) (Or.inl ⟨by rfl, ?_⟩) (by assumption) ?_
      rotate_left
      · intro w hSw; (try dsimp only at hSw); go_simp; try with_reducible rfl
      simp only [Act.put, List.setIfInBounds_toArray, List.set_cons_zero, List.set_cons_succ]
      refine wpAnyH_take (i := 4) (oi := ⟨some 21, _, _, _, _, _⟩) (v := ?_) rfl (by kernel_rfl) (by kernel_rfl) (by kernel_rfl) (fun _ _ _ h => h) (Or.inl ⟨by rfl, ?_⟩) (by assumption) ?_
      rotate_left
      · intro w hSw; (try dsimp only at hSw); go_simp; try with_reducible rfl
      simp only [Act.put, List.setIfInBounds_toArray, List.set_cons_zero, List.set_cons_succ]
      refine wpAnyH_take (i := 5) (oi := ⟨some 22, _, _, _, _, _⟩) (v := ?_) rfl (by kernel_rfl) (by kernel_rfl) (by kernel_rfl) (fun _ _ _ h => h) (Or.inl ⟨by rfl, ?_⟩) (by assumption) ?_
      rotate_left
      · intro w hSw; (try dsimp only at hSw); go_simp; try with_reducible rfl
      simp only [Act.put, List.setIfInBounds_toArray, List.set_cons_zero, List.set_cons_succ]
      refine wpAnyH_take (i := 6) (oi := ⟨some 23, _, _, _, _, _⟩) (v := ?_) rfl (by kernel_rfl) (by kernel_rfl) (by kernel_rfl) (fun _ _ _ h => h) (Or.inl ⟨by rfl, ?_⟩) (by assumption) ?_
      rotate_left
      · intro w hSw; (try dsimp only at hSw); go_simp; try with_reducible rfl
      simp only [Act.put, List.setIfInBounds_toArray, List.set_cons_zero, List.set_cons_succ]
      refine wpAnyH_take (i := 7) (oi := ⟨some 24, _, _, _, _, _⟩) (v := ?_) rfl (by kernel_rfl) (by kernel_rfl) (by kernel_rfl) (fun _ _ _ h => h) (Or.inl ⟨by rfl, ?_⟩) (by assumption) ?_
      rotate_left
      · intro w hSw; (try dsimp only at hSw); go_simp; try with_reducible rfl
      simp only [Act.put, List.setIfInBounds_toArray, List.set_cons_zero, List.set_cons_succ]
      refine wpAnyH_ready (rs := [8]) (by kernel_rfl) (by simp) ?_
      refine AllReadyH.cons (o := ⟨some 25, _, _, _, _, _⟩) rfl (fun Kq hKq => ?_) AllReadyH.nil
      go_simp
      go_at_call 79
      refine (eqrule _ _ _ _).mono ?_
      rintro e w2 ⟨rfl, hg⟩
      have q1 := hg.block b hb (by simp)
      have q2 := hg.block b' hb' (by simp)
      replace c0 := (World.cell?_of_block q1).trans c0; replace c1 := (World.cell?_of_block q1).trans c1; replace c2 := (World.cell?_of_block q1).trans c2
      replace d0 := (World.cell?_of_block q2).trans d0; replace d1 := (World.cell?_of_block q2).trans d1; replace d2 := (World.cell?_of_block q2).trans d2
      clear q1 q2
      replace G := Lib.hid (gtr G.out hg)
      clear hg
      refine hKq.out _ _ (⟨c0, c1, c2, d0, d1, d2⟩) (fun hHeld => ?_)
      clear hKq Kq
      refine wpAnyH_take (i := 9) (oi := ⟨some 26, _, _, _, _, _⟩) (v := ?_) rfl (by kernel_rfl) (by kernel_rfl) (by kernel_rfl) (fun _ _ _ h => h) (Or.inl ⟨by rfl, ?_⟩) (by assumption) ?_
      rotate_left
      · intro w hSw; (try dsimp only at hSw); go_simp; try with_reducible rfl
      simp only [Act.put, List.setIfInBounds_toArray, List.set_cons_zero, List.set_cons_succ]
      refine wpAnyH_done (by kernel_rfl) ?_ _
      go_wp2
      go_roundw
      case rel => exact ⟨k + 1, by omega, by go_num, G.out⟩
      case measure => simp [intOf]; omega
    · obtain rfl : k = len := by omega
      go_wp2
      go_ret
      exact ⟨rfl, G.out⟩
end Po
namespace Op
open Go.ChangeShapes Go.WideShapes Go.ChangeAt Go.RowKit Go.Joins Mem Po
set_option linter.unusedVariables false
set_option maxRecDepth 100000 in
theorem c_strg : Try.prog.cellsOf 9 = 1 := by kernel_rfl
set_option maxRecDepth 100000 in
theorem c_intP : Try.prog.cellsOf 3 = 1 := by kernel_rfl
set_option maxRecDepth 100000 in
theorem c_ruleL : Try.prog.cellsOf 100 = 3 := by kernel_rfl
set_option maxRecDepth 100000 in
theorem op_strs {H : Type} {enc : TypeId × Value → H} {W : World} {base : Nat} {v : Value} {d : DataW H} {p : List MemPlace} (hv : Value.okWide Try.prog W .any base 23 v) (h : DataW.Trod enc Try.prog W 0 (fun _ => true) true 23 v d p) :
    ∃ (a : Option Addr) (len cap : Nat) (R : Nat → ByteArray), v = .slice a len cap ∧ StrI W a len R ∧ len ≤ maxLen ∧ (∀ j, j < len → (R j).size ≤ maxLen) := by
  obtain ⟨a, len, cap, rfl⟩ := okWide_slice Try.underlying23 hv
  obtain ⟨fuel, hf⟩ := h
  rcases open_strings Try.underlying23 Try.underlying9 c_strg hf with ⟨hcs, _⟩ | ⟨x, l, c, ss, hcs, _, hl, hm, hz, _, hcell, hsz⟩
  · simp [Value.cells] at hcs
    obtain ⟨rfl, rfl, rfl⟩ := hcs
    exact ⟨none, 0, 0, fun _ => noS, rfl, .inl rfl, by unfold maxLen; omega, fun j hj => by omega⟩
  · simp [Value.cells] at hcs
    obtain ⟨rfl, rfl, rfl⟩ := hcs
    by_cases h0 : len = 0
    · exact ⟨_, _, _, fun _ => noS, rfl, .inl h0, by omega, fun j hj => by omega⟩
    have hss : ss.length = cap := by simpa using hz
    obtain ⟨b, off, spot⟩ := x
    have hc0 := hcell 0 (by omega)
    have hspot : spot = none := by simpa [Addr.add] using World.cell?_spot hc0
    subst hspot
    have hb : b < W.heap.size := by
      rcases Nat.lt_or_ge b W.heap.size with h' | h'
      · exact h'
      · simp [World.cell?, Addr.add, Array.getElem?_eq_none h'] at hc0
    refine ⟨_, _, _, fun j => ss.getD j ByteArray.empty, rfl, .inr ⟨b, off, rfl, hb, fun j hj => ?_⟩, by omega, fun j hj => ?_⟩
    · have := hcell j (by omega)
      rwa [addr_add] at this
    · have hj' : j < ss.length := by omega
      refine hsz _ ?_
      show ss.getD j ByteArray.empty ∈ ss
      simp only [List.getD, List.getElem?_eq_getElem hj', Option.getD_some]
      exact List.getElem_mem _
set_option maxRecDepth 100000 in
theorem op_strg {H : Type} {enc : TypeId × Value → H} {W : World} {fuel : Nat} {c : Value} {y : DataW H × List MemPlace} (h : DataW.trod enc Try.prog W 0 (fun _ => true) true fuel 9 [c] = some y) : ∃ s : ByteArray, c = .string s ∧ s.size ≤ maxLen := by
  obtain ⟨s, e0, _, hs⟩ := DataW.trod_string Try.underlying9 h
  exact ⟨s, by simpa using e0, hs⟩
set_option maxRecDepth 100000 in
theorem op_rules {H : Type} {enc : TypeId × Value → H} {W : World} {base : Nat} {v : Value} {d : DataW H} {p : List MemPlace} (hv : Value.okWide Try.prog W .any base 46 v) (h : DataW.Trod enc Try.prog W 0 (fun _ => true) true 46 v d p) :
    ∃ (a : Option Addr) (len cap : Nat) (U : Nat → RV), v = .slice a len cap ∧ RuI W a len U ∧ len ≤ maxLen ∧ (∀ j, j < len → (U j).r.size ≤ maxLen) := by
  obtain ⟨a, len, cap, rfl⟩ := okWide_slice Try.underlying46 hv
  obtain ⟨fuel, hf⟩ := h
  rcases open_tri Try.underlying46 Try.underlying100 c_ruleL rfl rfl rfl c_strg c_intP c_intP hf with ⟨x, l, c, hcs, hl, hm⟩ | ⟨b, off, l, c, n, hcs, hl, hm, hb, hx⟩
  · simp [Value.cells] at hcs
    obtain ⟨rfl, rfl, rfl⟩ := hcs
    exact ⟨a, len, cap, fun _ => ⟨noS, 0, 0⟩, rfl, .inl hl, by omega, fun j hj => by omega⟩
  · simp [Value.cells] at hcs
    obtain ⟨rfl, rfl, rfl⟩ := hcs
    have each : ∀ j, j < len → ∃ D : RV, (W.cell? ⟨b, off + j * 3, none⟩ = some (.string D.r) ∧ W.cell? ⟨b, off + j * 3 + 1, none⟩ = some (.int .i64 D.many) ∧ W.cell? ⟨b, off + j * 3 + 2, none⟩ = some (.int .i64 D.most)) ∧ D.r.size ≤ maxLen := by
      intro j hj
      obtain ⟨v0, v1, v2, y0, y1, y2, hc, g0, g1, g2⟩ := hx j hj
      obtain ⟨x0, rfl, hs⟩ := op_strg g0
      obtain ⟨x1, rfl⟩ := op_int g1
      obtain ⟨x2, rfl⟩ := op_int g2
      exact ⟨⟨x0, x1, x2⟩, hc, hs⟩
    have ⟨D, hD⟩ : ∃ D : Nat → RV, ∀ j, j < len → (W.cell? ⟨b, off + j * 3, none⟩ = some (.string (D j).r) ∧ W.cell? ⟨b, off + j * 3 + 1, none⟩ = some (.int .i64 (D j).many) ∧ W.cell? ⟨b, off + j * 3 + 2, none⟩ = some (.int .i64 (D j).most)) ∧ (D j).r.size ≤ maxLen := by
      classical
      exact ⟨fun j => if h : j < len then (each j h).choose else ⟨noS, 0, 0⟩, fun j hj => by simp only [dif_pos hj]; exact (each j hj).choose_spec⟩
    exact ⟨_, _, _, D, rfl, .inr ⟨b, off, rfl, hb, fun j hj => (hD j hj).1⟩, by omega, fun j hj => (hD j hj).2⟩
end Op
end Go.Proofs.Ythbigmcklacbnaa
