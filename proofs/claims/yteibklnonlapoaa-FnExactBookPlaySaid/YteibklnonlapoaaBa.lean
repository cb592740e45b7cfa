/-
  Books as numbers: what each operation leaves, what letters do one behind the other.
-/
namespace Go.Proofs.Yteibklnonlapoaa
namespace Bk
set_option linter.unusedVariables false

/-- Is it a book? -/
def Ok (n s : Int) : Prop := 0 ≤ n ∧ n ≤ s ∧ s ≤ 60
instance (n s : Int) : Decidable (Ok n s) := inferInstanceAs (Decidable (_ ∧ _))
/-- Nothing more is to be set aside. -/
def Full (n s : Int) : Prop := n + 4 ≤ s ∨ 60 ≤ s
instance (n s : Int) : Decidable (Full n s) := inferInstanceAs (Decidable (_ ∨ _))
/-- How far is set aside behind that. -/
def kS (n s : Int) : Int := if n + 4 ≤ s ∨ 60 ≤ s then s else if n + 4 ≤ 60 then n + 4 else 60
theorem kS_full {n s : Int} (h : Full n s) : kS n s = s := if_pos h
theorem kS_not {n s : Int} (h : ¬ Full n s) : kS n s = if n + 4 ≤ 60 then n + 4 else 60 := if_neg h
theorem kS_ok {n s : Int} (h : Ok n s) : Ok n (kS n s) := by unfold Ok kS at *; split <;> (try split) <;> omega
theorem kS_le {n s : Int} (h : Ok n s) : s ≤ kS n s := by unfold Ok kS at *; split <;> (try split) <;> omega
theorem kS_more {n s : Int} (h : Ok n s) (hf : ¬ Full n s) : s < kS n s := by rw [kS_not hf]; unfold Ok Full at *; split <;> omega

/-- A book, and what was taken. -/
structure BS where
  n : Int
  s : Int
  out : List Int
def z0 : BS := ⟨0, 0, []⟩
def K (b : BS) : BS := ⟨b.n, kS b.n b.s, b.out⟩
def T (b : BS) : BS := if b.n < b.s then ⟨b.n + 1, b.s, b.out ++ [b.n]⟩ else b
def F (b : BS) : BS := ⟨b.s, b.s, b.out⟩
/-- A letter. -/
def stp (b : BS) (c : UInt8) : BS := if c.toNat = 107 then K b else if c.toNat = 116 then T b else if c.toNat = 102 then F b else b
def run (l : List UInt8) : BS := l.foldl stp z0
theorem run_app (l m : List UInt8) : run (l ++ m) = m.foldl stp (run l) := by unfold run; rw [List.foldl_append]
theorem stp_k {b : BS} {c : UInt8} (h : c.toNat = 107) : stp b c = K b := if_pos h
theorem stp_t {b : BS} {c : UInt8} (h : c.toNat = 116) : stp b c = T b := by unfold stp; rw [if_neg (by omega), if_pos h]
theorem stp_f {b : BS} {c : UInt8} (h : c.toNat = 102) : stp b c = F b := by unfold stp; rw [if_neg (by omega), if_neg (by omega), if_pos h]
theorem stp_x {b : BS} {c : UInt8} (h : c.toNat ≠ 107) (h1 : c.toNat ≠ 116) (h2 : c.toNat ≠ 102) : stp b c = b := by unfold stp; rw [if_neg h, if_neg h1, if_neg h2]
/-- What holds of a book that letters made. -/
structure Good (b : BS) : Prop where
  ok : Ok b.n b.s
  low : ∀ x ∈ b.out, 0 ≤ x ∧ x < b.n
  asc : b.out.Pairwise (· < ·)
theorem Good.k {b : BS} (h : Good b) : Good (K b) := ⟨kS_ok h.ok, h.low, h.asc⟩
theorem Good.t {b : BS} (h : Good b) : Good (T b) := by
  have ho := h.ok
  unfold T; split
  · rename_i hlt
    refine ⟨by unfold Ok at *; simp only; omega, fun x hx => ?_, ?_⟩
    · rcases List.mem_append.1 hx with h1 | h1
      · have := h.low x h1; simp only; omega
      · obtain rfl := List.mem_singleton.1 h1
        unfold Ok at ho; simp only; omega
    · refine List.pairwise_append.2 ⟨h.asc, List.pairwise_singleton _ _, fun x hx y hy => ?_⟩
      obtain rfl := List.mem_singleton.1 hy
      exact (h.low x hx).2
  · exact h
theorem Good.f {b : BS} (h : Good b) : Good (F b) := by
  have ho := h.ok
  refine ⟨by unfold Ok F at *; simp only; omega, fun x hx => ?_, h.asc⟩
  have := h.low x hx
  unfold Ok F at *; simp only; omega
theorem Good.stp {b : BS} (h : Good b) (c : UInt8) : Good (stp b c) := by
  unfold Bk.stp; split
  · exact h.k
  · split
    · exact h.t
    · split
      · exact h.f
      · exact h
theorem good_fold : ∀ (l : List UInt8) (b : BS), Good b → Good (l.foldl stp b)
  | [], _, h => h
  | c :: l, b, h => good_fold l (stp b c) (h.stp c)
theorem good_run (l : List UInt8) : Good (run l) := good_fold l z0 ⟨by unfold Ok z0; decide, fun x hx => by simp [z0] at hx, by simp [z0]⟩
theorem len_stp (b : BS) (c : UInt8) : (stp b c).out.length ≤ b.out.length + 1 := by
  unfold stp K T F; repeat' (first | split | simp)
theorem len_fold : ∀ (l : List UInt8) (b : BS), (l.foldl stp b).out.length ≤ b.out.length + l.length
  | [], _ => by simp
  | c :: l, b => by have h1 := len_fold l (stp b c); have h2 := len_stp b c; simp only [List.foldl_cons, List.length_cons] at *; omega
theorem len_run (l : List UInt8) : (run l).out.length ≤ l.length := by have h := len_fold l z0; have e : z0.out.length = 0 := rfl; unfold run; omega
theorem tl_len (t : ByteArray) : t.data.toList.length = t.size := by rw [Array.length_toList]; rfl
/-- The letters of a text up to a place. -/
def bkUp (t : ByteArray) (i : Nat) : BS := run (t.data.toList.take i)
def bkAll (t : ByteArray) : BS := run t.data.toList
theorem bkUp_all (t : ByteArray) : bkUp t t.size = bkAll t := by
  unfold bkUp bkAll
  rw [List.take_of_length_le]
  rw [tl_len]; exact Nat.le_refl _
theorem bkUp_zero (t : ByteArray) : bkUp t 0 = z0 := by simp [bkUp, run]
theorem bkUp_step (t : ByteArray) {i : Nat} (h : i < t.size) : bkUp t (i + 1) = stp (bkUp t i) t[i] := by
  have hl : i < t.data.toList.length := by rw [tl_len]; exact h
  unfold bkUp
  rw [List.take_add_one, List.getElem?_eq_getElem hl, Option.toList_some, run_app]
  rfl
theorem bkAll_app (t u : ByteArray) : bkAll (t ++ u) = u.data.toList.foldl stp (bkAll t) := by
  unfold bkAll
  rw [ByteArray.data_append, Array.toList_append, run_app]
theorem good_bkUp (t : ByteArray) (i : Nat) : Good (bkUp t i) := good_run _
theorem good_all (t : ByteArray) : Good (bkAll t) := good_run _
theorem len_bkUp (t : ByteArray) (i : Nat) : (bkUp t i).out.length ≤ i := by
  have := len_run (t.data.toList.take i)
  have h2 : (t.data.toList.take i).length ≤ i := by rw [List.length_take]; omega
  unfold bkUp; omega
theorem len_all (t : ByteArray) : (bkAll t).out.length ≤ t.size := by have := len_run t.data.toList; rw [tl_len] at this; exact this
end Bk
end Go.Proofs.Yteibklnonlapoaa
