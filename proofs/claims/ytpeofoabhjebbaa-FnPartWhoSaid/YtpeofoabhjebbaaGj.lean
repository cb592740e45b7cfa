/-
  Signatures: whether one is right, and signing alone: the program's and the model's functions.
-/
import Derived.Test.YtpeofoabhjebbaaGi
import Derived.Test.YtpeofoabhjebbaaWk
namespace Go.Proofs.Ytpeofoabhjebbaa
namespace Con
open Go.RowKit Alg Mem Draw
set_option linter.unusedVariables false

/-- A struct of two that lies in memory. -/
structure Du (w : World) (b : Nat) (x y : Value) : Prop where
  lt : b < w.heap.size
  c0 : w.cell? ⟨b, 0, none⟩ = some x
  c1 : w.cell? ⟨b, 1, none⟩ = some y
theorem Du.of_blk {w : World} {b : Nat} {x y : Value} {T : TypeId} (h : Blk w b #[x, y] T) : Du w b x y := ⟨h.lt, h.cell 0, h.cell 1⟩
theorem Du.keptB {w w' : World} {b : Nat} {x y : Value} (h : Du w b x y) (hb : w'.heap[b]? = w.heap[b]?) (hs : w.heap.size ≤ w'.heap.size) : Du w' b x y :=
  ⟨Nat.lt_of_lt_of_le h.lt hs, by rw [World.cell?_of_block (w := w) hb]; exact h.c0, by rw [World.cell?_of_block (w := w) hb]; exact h.c1⟩
theorem Du.kept {w w' : World} {b : Nat} {x y : Value} (h : Du w b x y) (hg : w.grownBy w' none) : Du w' b x y := h.keptB (hg.block b h.lt (by simp)) hg.size

set_option maxHeartbeats 2000000 in
theorem isigok (w : World) (pub msg R Z : Int) :
    Calls Try.prog 25 #[.int .i64 pub, .int .i64 msg, .agg #[.int .i64 R, .int .i64 Z]] w fun e w' => e = .returned (.bool (sgF pub msg R Z)) ∧ w.grownBy w' none := by
  have G := Lib.hid (Draw.grown_alloc w (.cells #[.int .i64 R, .int .i64 Z] 29) none)
  have D := Lib.hid (Du.of_blk (Blk.new w #[.int .i64 R, .int .i64 Z] 29))
  go_enter Try.func25, Try.ntmps25
  obtain ⟨_, d0, d1⟩ := D.out
  rcases gokc pub with h1 | h1
  case inr =>
    have HR := Lib.hid (sgF_out (msg := msg) (R := R) (Z := Z) (Or.inl h1))
    go_wp2_with fail
    refine (igok_no _ _ h1).mono ?_
    rintro e w1 ⟨rfl, hg⟩
    clear d0 d1
    replace G := Lib.hid (gtr G.out hg)
    replace D := Lib.hid (D.out.kept hg)
    clear hg
    obtain ⟨_, d0, d1⟩ := D.out
    go_wp2
    go_ret
    exact ⟨ret_b HR.out.symm, G.out⟩
  go_wp2_with fail
  refine (igok_yes _ _ h1).mono ?_
  rintro e w1 ⟨rfl, hg⟩
  clear d0 d1
  replace G := Lib.hid (gtr G.out hg)
  replace D := Lib.hid (D.out.kept hg)
  clear hg
  obtain ⟨_, d0, d1⟩ := D.out
  rcases gokc R with h2 | h2
  case inr =>
    have HR := Lib.hid (sgF_out (pub := pub) (msg := msg) (Z := Z) (Or.inr (Or.inr (Or.inl h2))))
    go_wp2_with fail
    refine (igok_no _ _ h2).mono ?_
    rintro e w2 ⟨rfl, hg⟩
    clear d0 d1
    replace G := Lib.hid (gtr G.out hg)
    replace D := Lib.hid (D.out.kept hg)
    clear hg
    obtain ⟨_, d0, d1⟩ := D.out
    go_wp2
    go_ret
    exact ⟨ret_b HR.out.symm, G.out⟩
  go_wp2_with fail
  refine (igok_yes _ _ h2).mono ?_
  rintro e w2 ⟨rfl, hg⟩
  clear d0 d1
  replace G := Lib.hid (gtr G.out hg)
  replace D := Lib.hid (D.out.kept hg)
  clear hg
  obtain ⟨_, d0, d1⟩ := D.out
  rcases fokc Z with h3 | h3
  case inr =>
    have HR := Lib.hid (sgF_out (pub := pub) (msg := msg) (R := R) (Or.inr (Or.inr (Or.inr h3))))
    go_wp2_with fail
    refine (iok_no _ _ h3).mono ?_
    rintro e w' ⟨rfl, rfl⟩
    go_wp2
    go_ret
    exact ⟨ret_b HR.out.symm, G.out⟩
  go_wp2_with fail
  refine (iok_yes _ _ h3).mono ?_
  rintro e w' ⟨rfl, rfl⟩
  rcases mok_cases msg with h4 | h4
  case inr =>
    have HR := Lib.hid (sgF_out (pub := pub) (R := R) (Z := Z) (Or.inr (Or.inl h4)))
    go_wp2_with fail
    refine (imsg_no _ _ h4).mono ?_
    rintro e w' ⟨rfl, rfl⟩
    go_wp2
    go_ret
    exact ⟨ret_b HR.out.symm, G.out⟩
  have HR := Lib.hid (sgF_in h1 h4 h2 h3)
  have HH := Lib.hid (hF_in h2 h1 h4)
  go_wp2_with fail
  refine (imsg_yes _ _ h4).mono ?_
  rintro e w' ⟨rfl, rfl⟩
  go_wp2_with fail
  refine (sifits _ pub R R msg Z).mono ?_
  rintro e w3 ⟨rfl, hg⟩
  clear d0 d1
  replace G := Lib.hid (gtr G.out hg)
  replace D := Lib.hid (D.out.kept hg)
  clear hg
  obtain ⟨_, d0, d1⟩ := D.out
  rw [HH.out]
  go_wp2
  go_ret
  exact ⟨ret_b HR.out.symm, G.out⟩

/-- What is answered to who signs alone. -/
def saV (secret msg drawn : Int) : Value := .tuple #[.agg #[.int .i64 (saR' secret msg drawn), .int .i64 (saZ' secret msg drawn)], .bool (saOk secret msg drawn)]
theorem saV_no {secret msg drawn : Int} (h : saOk secret msg drawn = false) : saV secret msg drawn = .tuple #[.agg #[.int .i64 0, .int .i64 0], .bool false] := by unfold saV; rw [saR_no h, saZ_no h, h]
theorem saV_yes {secret msg drawn : Int} (h : saOk secret msg drawn = true) : saV secret msg drawn = .tuple #[.agg #[.int .i64 (gofF drawn), .int .i64 (saZ secret msg drawn)], .bool true] := by unfold saV; rw [saR_yes h, saZ_yes h, h]
theorem size_sig : (Try.prog.info? 29).map (·.size) = some 2 := by kernel_rfl
theorem ret_sb {fn : Func} {p u : Tmp} (h : fn.results = #[.cell p 29, .tmp u]) (tmps : Array Value) {w : World} {b : Nat} {v0 v1 : Value} {T : TypeId} (hp : tmps.getD p undef = .pointer (some ⟨b, 0, none⟩)) (hb : Blk w b #[v0, v1] T) :
    (results fn tmps).run Try.prog w = .ok (.tuple #[.agg #[v0, v1], tmps.getD u undef]) w := by
  have hp' : tmps[p]?.getD undef = .pointer (some ⟨b, 0, none⟩) := by simpa using hp
  simp [results, h, hp', asAddr, run_loadVar_row w b T 29 #[v0, v1] (0, 0) _ hb Try.underlying29 rfl size_sig, Result.andThen]
set_option maxHeartbeats 2000000 in
theorem isalone (w : World) (secret msg drawn : Int) :
    Calls Try.prog 24 #[.int .i64 secret, .int .i64 msg, .int .i64 drawn] w fun e w' => e = .returned (saV secret msg drawn) ∧ w.grownBy w' none := by
  have G := Lib.hid (Draw.grown_alloc w (.cells #[.int .i64 0, .int .i64 0] 29) none)
  have R := Lib.hid (Blk.new w #[.int .i64 0, .int .i64 0] 29)
  go_enter Try.func24, Try.ntmps24
  rcases fokc secret with h1 | h1
  case inr =>
    have HN := Lib.hid (saOk_not (secret := secret) (msg := msg) (drawn := drawn) (by simp [h1]))
    go_wp2_with fail
    refine (iok_no _ _ h1).mono ?_
    rintro e w' ⟨rfl, rfl⟩
    go_wp2_with (first
      | (refine wpList_store_blk rfl 29 (.tmp 6) (.tmp 22) _ _ _ 29 R.out rfl rfl rfl rfl (by kernel_rfl) (by simp [Value.oneCell']) rfl ?_; intro V hgV hRV; have HGV := Lib.hid hgV; have HRV := Lib.hid hRV; clear hgV hRV))
    (try simp only [Exit.inBlock, Exit.then])
    refine bodyPost_ret (ret_sb rfl _ rfl HRV.out) rfl ?_
    exact ⟨by rw [saV_no HN.out]; rfl, grown_new G.out (Nat.le_refl _) HGV.out⟩
  go_wp2_with fail
  refine (iok_yes _ _ h1).mono ?_
  rintro e w' ⟨rfl, rfl⟩
  rcases fokc drawn with h2 | h2
  case inr =>
    have HN := Lib.hid (saOk_not (secret := secret) (msg := msg) (drawn := drawn) (by simp [h2]))
    go_wp2_with fail
    refine (iok_no _ _ h2).mono ?_
    rintro e w' ⟨rfl, rfl⟩
    go_wp2_with (first
      | (refine wpList_store_blk rfl 29 (.tmp 6) (.tmp 22) _ _ _ 29 R.out rfl rfl rfl rfl (by kernel_rfl) (by simp [Value.oneCell']) rfl ?_; intro V hgV hRV; have HGV := Lib.hid hgV; have HRV := Lib.hid hRV; clear hgV hRV))
    (try simp only [Exit.inBlock, Exit.then])
    refine bodyPost_ret (ret_sb rfl _ rfl HRV.out) rfl ?_
    exact ⟨by rw [saV_no HN.out]; rfl, grown_new G.out (Nat.le_refl _) HGV.out⟩
  go_wp2_with fail
  refine (iok_yes _ _ h2).mono ?_
  rintro e w' ⟨rfl, rfl⟩
  rcases mok_cases msg with h3 | h3
  case inr =>
    have HN := Lib.hid (saOk_not (secret := secret) (msg := msg) (drawn := drawn) (by simp [h3]))
    go_wp2_with fail
    refine (imsg_no _ _ h3).mono ?_
    rintro e w' ⟨rfl, rfl⟩
    go_wp2_with (first
      | (refine wpList_store_blk rfl 29 (.tmp 6) (.tmp 22) _ _ _ 29 R.out rfl rfl rfl rfl (by kernel_rfl) (by simp [Value.oneCell']) rfl ?_; intro V hgV hRV; have HGV := Lib.hid hgV; have HRV := Lib.hid hRV; clear hgV hRV))
    (try simp only [Exit.inBlock, Exit.then])
    refine bodyPost_ret (ret_sb rfl _ rfl HRV.out) rfl ?_
    exact ⟨by rw [saV_no HN.out]; rfl, grown_new G.out (Nat.le_refl _) HGV.out⟩
  go_wp2_with fail
  refine (imsg_yes _ _ h3).mono ?_
  rintro e w' ⟨rfl, rfl⟩
  have HN := Lib.hid (saOk_iff.2 ⟨h1, h2, h3⟩)
  have HH := Lib.hid (hF_in (r := gofF drawn) (pub := gofF secret) (gof_ok h2) (gof_ok h1) h3)
  go_wp2_with fail
  refine (igof drawn _).mono ?_
  rintro e w1 ⟨rfl, hg⟩
  replace G := Lib.hid (gtr G.out hg)
  replace R := Lib.hid (R.out.keptN hg)
  clear hg
  go_wp2_with fail
  refine (igof secret _).mono ?_
  rintro e w2 ⟨rfl, hg⟩
  replace G := Lib.hid (gtr G.out hg)
  replace R := Lib.hid (R.out.keptN hg)
  clear hg
  go_wp2_with fail
  refine (sianswer _ (gofF secret) secret (gofF drawn) msg drawn).mono ?_
  rintro e w3 ⟨rfl, hg⟩
  replace G := Lib.hid (gtr G.out hg)
  replace R := Lib.hid (R.out.keptN hg)
  clear hg
  rw [HH.out]
  go_wp2_with (first
    | (refine wpList_store_blk rfl 29 (.tmp 6) (.tmp 35) _ _ _ 29 R.out rfl rfl rfl rfl (by kernel_rfl) (by simp [Value.oneCell']) rfl ?_; intro V hgV hRV; have HGV := Lib.hid hgV; have HRV := Lib.hid hRV; clear hgV hRV))
  (try simp only [Exit.inBlock, Exit.then])
  refine bodyPost_ret (ret_sb rfl _ rfl HRV.out) rfl ?_
  exact ⟨by rw [saV_yes HN.out]; rfl, grown_new G.out (Nat.le_refl _) HGV.out⟩

/-! The model's. -/
theorem s31hash (w : World) (r pub msg : Int) (r0 : 0 ≤ r) (r1 : r ≤ 46) (p0 : 0 ≤ pub) (p1 : pub ≤ 46) (m0 : 0 ≤ msg) (m1 : msg ≤ 99) :
    Calls Try.prog 59 #[.int .i64 r, .int .i64 pub, .int .i64 msg] w fun e w' => e = .returned (.int .i64 (hz r pub msg)) ∧ w = w' := by
  have hnn : 0 ≤ 5 * r + 7 * pub + 11 * msg + 3 := by omega
  go_enter Try.func59, Try.ntmps59
  go_wp2
  go_ret
  exact ⟨ret_i (by first | rfl | exact Int.tmod_eq_emod_of_nonneg hnn), rfl⟩
theorem smsg_yes (w : World) (m : Int) (h : mok m = true) : Calls Try.prog 58 #[.int .i64 m, .int .i64 0, .int .i64 99] w fun e w' => e = .returned (.bool true) ∧ w = w' :=
  s6in_yes w m 0 99 (mok_iff.1 h).1 (mok_iff.1 h).2
theorem smsg_no (w : World) (m : Int) (h : mok m = false) : Calls Try.prog 58 #[.int .i64 m, .int .i64 0, .int .i64 99] w fun e w' => e = .returned (.bool false) ∧ w = w' :=
  s6in_no w m 0 99 (mok_not.1 h)
theorem shash (w : World) (r pub msg : Int) :
    Calls Try.prog 19 #[.int .i64 r, .int .i64 pub, .int .i64 msg] w fun e w' => e = .returned (.int .i64 (hF r pub msg)) ∧ w = w' := by
  go_enter Try.func19, Try.ntmps19
  rcases gokc r with h1 | h1
  case inr =>
    have HR := Lib.hid (hF_out (pub := pub) (msg := msg) (Or.inl h1))
    go_wp2_with fail
    refine (sgok_no _ _ h1).mono ?_
    rintro e w' ⟨rfl, rfl⟩
    go_wp2
    go_ret
    exact ⟨ret_i HR.out.symm, rfl⟩
  go_wp2_with fail
  refine (sgok_yes _ _ h1).mono ?_
  rintro e w' ⟨rfl, rfl⟩
  rcases gokc pub with h2 | h2
  case inr =>
    have HR := Lib.hid (hF_out (r := r) (msg := msg) (Or.inr (Or.inl h2)))
    go_wp2_with fail
    refine (sgok_no _ _ h2).mono ?_
    rintro e w' ⟨rfl, rfl⟩
    go_wp2
    go_ret
    exact ⟨ret_i HR.out.symm, rfl⟩
  go_wp2_with fail
  refine (sgok_yes _ _ h2).mono ?_
  rintro e w' ⟨rfl, rfl⟩
  rcases mok_cases msg with h3 | h3
  case inr =>
    have HR := Lib.hid (hF_out (r := r) (pub := pub) (Or.inr (Or.inr h3)))
    go_wp2_with fail
    refine (smsg_no _ _ h3).mono ?_
    rintro e w' ⟨rfl, rfl⟩
    go_wp2
    go_ret
    exact ⟨ret_i HR.out.symm, rfl⟩
  go_wp2_with fail
  refine (smsg_yes _ _ h3).mono ?_
  rintro e w' ⟨rfl, rfl⟩
  have HR := Lib.hid (hF_in h1 h2 h3)
  obtain ⟨r0, r1⟩ := gok_range h1
  obtain ⟨p0, p1⟩ := gok_range h2
  obtain ⟨m0, m1⟩ := mok_iff.1 h3
  go_wp2_with fail
  refine (s31hash _ r pub msg (by omega) (by omega) (by omega) (by omega) (by omega) (by omega)).mono ?_
  rintro e w' ⟨rfl, rfl⟩
  go_wp2
  go_ret
  exact ⟨ret_i HR.out.symm, rfl⟩
set_option maxHeartbeats 2000000 in
theorem ssigok (w : World) (pub msg R Z : Int) :
    Calls Try.prog 30 #[.int .i64 pub, .int .i64 msg, .agg #[.int .i64 R, .int .i64 Z]] w fun e w' => e = .returned (.bool (sgF pub msg R Z)) ∧ w.grownBy w' none := by
  have G := Lib.hid (Draw.grown_alloc w (.cells #[.int .i64 R, .int .i64 Z] 29) none)
  have D := Lib.hid (Du.of_blk (Blk.new w #[.int .i64 R, .int .i64 Z] 29))
  go_enter Try.func30, Try.ntmps30
  obtain ⟨_, d0, d1⟩ := D.out
  rcases gokc pub with h1 | h1
  case inr =>
    have HR := Lib.hid (sgF_out (msg := msg) (R := R) (Z := Z) (Or.inl h1))
    go_wp2_with fail
    refine (sgok_no _ _ h1).mono ?_
    rintro e w' ⟨rfl, rfl⟩
    go_wp2
    go_ret
    exact ⟨ret_b HR.out.symm, G.out⟩
  go_wp2_with fail
  refine (sgok_yes _ _ h1).mono ?_
  rintro e w' ⟨rfl, rfl⟩
  rcases mok_cases msg with h4 | h4
  case inr =>
    have HR := Lib.hid (sgF_out (pub := pub) (R := R) (Z := Z) (Or.inr (Or.inl h4)))
    go_wp2_with fail
    refine (smsg_no _ _ h4).mono ?_
    rintro e w' ⟨rfl, rfl⟩
    go_wp2
    go_ret
    exact ⟨ret_b HR.out.symm, G.out⟩
  go_wp2_with fail
  refine (smsg_yes _ _ h4).mono ?_
  rintro e w' ⟨rfl, rfl⟩
  rcases gokc R with h2 | h2
  case inr =>
    have HR := Lib.hid (sgF_out (pub := pub) (msg := msg) (Z := Z) (Or.inr (Or.inr (Or.inl h2))))
    go_wp2_with fail
    refine (sgok_no _ _ h2).mono ?_
    rintro e w' ⟨rfl, rfl⟩
    go_wp2
    go_ret
    exact ⟨ret_b HR.out.symm, G.out⟩
  go_wp2_with fail
  refine (sgok_yes _ _ h2).mono ?_
  rintro e w' ⟨rfl, rfl⟩
  rcases fokc Z with h3 | h3
  case inr =>
    have HR := Lib.hid (sgF_out (pub := pub) (msg := msg) (R := R) (Or.inr (Or.inr (Or.inr h3))))
    go_wp2_with fail
    refine (sok_no _ _ h3).mono ?_
    rintro e w' ⟨rfl, rfl⟩
    go_wp2
    go_ret
    exact ⟨ret_b HR.out.symm, G.out⟩
  go_wp2_with fail
  refine (sok_yes _ _ h3).mono ?_
  rintro e w' ⟨rfl, rfl⟩
  have hz1 := hz_ok R pub msg
  have HR := Lib.hid (show sgF pub msg R Z = (pw 2 Z.toNat == R * pw pub (hz R pub msg).toNat % 47) by rw [sgF_in h1 h4 h2 h3, gof_in h3, gpow_in h1 hz1, gmul_in h2 (by rw [← gpow_in h1 hz1]; exact gpow_ok h1 hz1)])
  obtain ⟨r0, r1⟩ := gok_range h2
  obtain ⟨p0, p1⟩ := gok_range h1
  obtain ⟨m0, m1⟩ := mok_iff.1 h4
  obtain ⟨z0, z1⟩ := fok_iff.1 h3
  obtain ⟨y0, y1⟩ := fok_iff.1 hz1
  have hP := pw_range pub (hz R pub msg).toNat
  have u0 : 0 ≤ R * pw pub (hz R pub msg).toNat := Int.mul_nonneg (by omega) hP.1
  have u1 : R * pw pub (hz R pub msg).toNat ≤ 46 * 46 := Int.mul_le_mul r1 hP.2 hP.1 (by decide)
  clear h1 h2 h3 h4 hz1
  go_wp2_with fail
  go_quiet (first
    | (go_at_call 63; refine Calls.quiet_of_same ((spow _ _ _ (by omega) (by omega) (by omega) (by omega)).mono fun _ _ h => ⟨h.1, h.2.symm⟩))
    | (go_at_call 59; refine Calls.quiet_of_same ((s31hash _ _ _ _ (by omega) (by omega) (by omega) (by omega) (by omega) (by omega)).mono fun _ _ h => ⟨h.1, h.2.symm⟩)))
  go_wp2
  go_ret
  exact ⟨ret_b HR.out.symm, Mem.grown_drew G.out _⟩
set_option maxHeartbeats 2000000 in
theorem ssalone (w : World) (secret msg drawn : Int) :
    Calls Try.prog 23 #[.int .i64 secret, .int .i64 msg, .int .i64 drawn] w fun e w' => e = .returned (saV secret msg drawn) ∧ w.grownBy w' none := by
  have G := Lib.hid (Draw.grown_alloc w (.cells #[.int .i64 0, .int .i64 0] 29) none)
  have R := Lib.hid (Blk.new w #[.int .i64 0, .int .i64 0] 29)
  go_enter Try.func23, Try.ntmps23
  rcases fokc secret with h1 | h1
  case inr =>
    have HN := Lib.hid (saOk_not (secret := secret) (msg := msg) (drawn := drawn) (by simp [h1]))
    go_wp2_with fail
    refine (sok_no _ _ h1).mono ?_
    rintro e w' ⟨rfl, rfl⟩
    go_wp2_with (first
      | (refine wpList_store_blk rfl 29 (.tmp 6) (.tmp 23) _ _ _ 29 R.out rfl rfl rfl rfl (by kernel_rfl) (by simp [Value.oneCell']) rfl ?_; intro V hgV hRV; have HGV := Lib.hid hgV; have HRV := Lib.hid hRV; clear hgV hRV))
    (try simp only [Exit.inBlock, Exit.then])
    refine bodyPost_ret (ret_sb rfl _ rfl HRV.out) rfl ?_
    exact ⟨by rw [saV_no HN.out]; rfl, grown_new G.out (Nat.le_refl _) HGV.out⟩
  go_wp2_with fail
  refine (sok_yes _ _ h1).mono ?_
  rintro e w' ⟨rfl, rfl⟩
  rcases fokc drawn with h2 | h2
  case inr =>
    have HN := Lib.hid (saOk_not (secret := secret) (msg := msg) (drawn := drawn) (by simp [h2]))
    go_wp2_with fail
    refine (sok_no _ _ h2).mono ?_
    rintro e w' ⟨rfl, rfl⟩
    go_wp2_with (first
      | (refine wpList_store_blk rfl 29 (.tmp 6) (.tmp 23) _ _ _ 29 R.out rfl rfl rfl rfl (by kernel_rfl) (by simp [Value.oneCell']) rfl ?_; intro V hgV hRV; have HGV := Lib.hid hgV; have HRV := Lib.hid hRV; clear hgV hRV))
    (try simp only [Exit.inBlock, Exit.then])
    refine bodyPost_ret (ret_sb rfl _ rfl HRV.out) rfl ?_
    exact ⟨by rw [saV_no HN.out]; rfl, grown_new G.out (Nat.le_refl _) HGV.out⟩
  go_wp2_with fail
  refine (sok_yes _ _ h2).mono ?_
  rintro e w' ⟨rfl, rfl⟩
  rcases mok_cases msg with h3 | h3
  case inr =>
    have HN := Lib.hid (saOk_not (secret := secret) (msg := msg) (drawn := drawn) (by simp [h3]))
    go_wp2_with fail
    refine (smsg_no _ _ h3).mono ?_
    rintro e w' ⟨rfl, rfl⟩
    go_wp2_with (first
      | (refine wpList_store_blk rfl 29 (.tmp 6) (.tmp 23) _ _ _ 29 R.out rfl rfl rfl rfl (by kernel_rfl) (by simp [Value.oneCell']) rfl ?_; intro V hgV hRV; have HGV := Lib.hid hgV; have HRV := Lib.hid hRV; clear hgV hRV))
    (try simp only [Exit.inBlock, Exit.then])
    refine bodyPost_ret (ret_sb rfl _ rfl HRV.out) rfl ?_
    exact ⟨by rw [saV_no HN.out]; rfl, grown_new G.out (Nat.le_refl _) HGV.out⟩
  go_wp2_with fail
  refine (smsg_yes _ _ h3).mono ?_
  rintro e w' ⟨rfl, rfl⟩
  have HN := Lib.hid (saOk_iff.2 ⟨h1, h2, h3⟩)
  have HD := Lib.hid (gof_in h2); have HS := Lib.hid (gof_in h1)
  obtain ⟨s0, s1⟩ := fok_iff.1 h1
  obtain ⟨d0, d1⟩ := fok_iff.1 h2
  obtain ⟨m0, m1⟩ := mok_iff.1 h3
  obtain ⟨g0, g1⟩ := gok_range (gof_ok h1)
  obtain ⟨f0, f1⟩ := gok_range (gof_ok h2)
  go_wp2_with fail
  refine (spow 2 drawn _ (by omega) (by omega) (by omega) (by omega)).mono ?_
  rintro e w' ⟨rfl, rfl⟩
  rw [← HD.out]
  go_wp2_with fail
  refine (spow 2 secret _ (by omega) (by omega) (by omega) (by omega)).mono ?_
  rintro e w' ⟨rfl, rfl⟩
  rw [← HS.out]
  go_wp2_with fail
  refine (s31hash _ (gofF drawn) (gofF secret) msg (by omega) (by omega) (by omega) (by omega) (by omega) (by omega)).mono ?_
  rintro e w' ⟨rfl, rfl⟩
  go_wp2_with fail
  refine (smul (hz (gofF drawn) (gofF secret) msg) secret _).mono ?_
  rintro e w' ⟨rfl, rfl⟩
  go_wp2_with fail
  refine (ssum drawn _ _).mono ?_
  rintro e w' ⟨rfl, rfl⟩
  go_wp2_with (first
    | (refine wpList_store_blk rfl 29 (.tmp 6) (.tmp 37) _ _ _ 29 R.out rfl rfl rfl rfl (by kernel_rfl) (by simp [Value.oneCell']) rfl ?_; intro V hgV hRV; have HGV := Lib.hid hgV; have HRV := Lib.hid hRV; clear hgV hRV))
  (try simp only [Exit.inBlock, Exit.then])
  refine bodyPost_ret (ret_sb rfl _ rfl HRV.out) rfl ?_
  exact ⟨by rw [saV_yes HN.out]; rfl, grown_new G.out (Nat.le_refl _) HGV.out⟩
end Con
end Go.Proofs.Ytpeofoabhjebbaa
