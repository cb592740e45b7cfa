/-
  errors.Is by its contracts, where the target is the program's own error value: the value itself is found, no error is not.
-/
import Derived.Test.YtonhdkideianiaaGreatDoorMem
import Derived.Test.YtonhdkideianiaaGreatDoorChecked
import Derived.WalkKit
import Derived.LaidEql
import Derived.Stop.Asserts
import Derived.RowKitTokens
import Derived.Test.YtonhdkideianiaaGreatDoorDa
import Derived.Test.YtonhdkideianiaaGreatDoorCe
import Derived.Deep.RegionWith
namespace Go.Proofs.YtonhdkideianiaaGreatDoor
namespace Con
open Go.RowKit Go.Extern.Stop Go.Stop Go.Extern Mem
set_option linter.unusedVariables false

theorem eiTypeOf (v : Value) (w : World) : (Extern.ReflectliteType.typeOf #[.iface 138 v]).run Tryz.prog w = .ok (.iface 124 (.agg #[.pointer (some ⟨1, 138, none⟩)])) w := by kernel_rfl
theorem eiComparable (w : World) : ((Extern.ReflectliteType.method fun t => do Rtype.noPackHeld "Comparable" t; pure (.bool (← typeInfo t).comparable)) #[.agg #[.pointer (some ⟨1, 138, none⟩)]]).run Tryz.prog w = .ok (.bool true) w := by kernel_rfl
theorem eiCall (w : World) : (callFunc 115 #[.agg #[.pointer (some ⟨1, 138, none⟩)]]).run Tryz.prog w = .ok (.value (.bool true)) w := by
  rw [@run_callFunc_extern Tryz.prog 115 _ (Extern.ReflectliteType.method fun t => do Rtype.noPackHeld "Comparable" t; pure (.bool (← typeInfo t).comparable)) Tryz.func115 (by kernel_rfl) (by kernel_rfl) (by kernel_rfl) (by kernel_rfl), eiComparable]; rfl
theorem eiMethod (v : Value) (w : World) : (Go.method 276 124 v "Comparable").run Tryz.prog w = .ok (115, v) w := by kernel_rfl
theorem eiComp : (Tryz.prog.info? 138).map (·.comparable) = some true := by kernel_rfl
theorem eiSize : (Tryz.prog.info? 164).map (·.size) = some 1 := by kernel_rfl

theorem is_same (a : Addr) (w : World) :
    Calls Tryz.prog 48 #[.iface 138 (.pointer (some a)), .iface 138 (.pointer (some a))] w fun e w' => e = .returned (.bool true) ∧ w = w' := by
  obtain ⟨i, hi, hcmp⟩ := Option.map_eq_some_iff.1 eiComp
  obtain ⟨j, hj, hjs⟩ := Option.map_eq_some_iff.1 eiSize
  have h8 := @run_callFunc_extern Tryz.prog 73 _ Extern.ReflectliteType.typeOf Tryz.func73 (by kernel_rfl) (by kernel_rfl) (by kernel_rfl) (by kernel_rfl)
  have tT := eiTypeOf
  have cT := eiCall
  have mR := eiMethod
  have heq := run_eql_iface_ptr_same (P := Tryz.prog) w a Tryz.underlying82 Tryz.underlying138 hi hcmp hj
  go_enter Tryz.func48, Tryz.ntmps48
  go_wp2
  refine wp_loop_rounds 1 ?_
  rw [rounds_succ]
  go_wp2
  go_ret
  exact ⟨rfl, rfl⟩
theorem is_nil (b : Addr) (w : World) :
    Calls Tryz.prog 48 #[.nilIface, .iface 138 (.pointer (some b))] w fun e w' => e = .returned (.bool false) ∧ w = w' := by
  have hn := run_eql_iface_nil_left (P := Tryz.prog) w 138 (.pointer (some b)) Tryz.underlying82
  go_enter Tryz.func48, Tryz.ntmps48
  go_wp2
  go_ret
  exact ⟨rfl, rfl⟩
end Con
end Go.Proofs.YtonhdkideianiaaGreatDoor
/-
  Which deals are well formed: the program's and the model's functions, at every deal.
-/

namespace Go.Proofs.YtonhdkideianiaaGreatDoor
namespace Con
open Go.RowKit Alg Mem
set_option linter.unusedVariables false

def deF (f : Int) : Bool := decide (1 ≤ f ∧ f ≤ 5)
def shF (m : Int) (n : Nat) (z : Nat → Int) : Bool := decide ((n : Int) = m) && okz z n
def coF (m : Int) (n : Nat) (z : Nat → Int) : Bool := decide ((n : Int) = m) && cokz n z
/-- Is the deal well formed? -/
def dlF (f : Int) (n1 : Nat) (z1 : Nat → Int) (n2 : Nat) (z2 : Nat → Int) (need many : Int) : Bool := deF f && crewF need many && coF need n1 z1 && shF many n2 z2
theorem dl_iff {f : Int} {n1 : Nat} {z1 : Nat → Int} {n2 : Nat} {z2 : Nat → Int} {need many : Int} :
    dlF f n1 z1 n2 z2 need many = true ↔ (1 ≤ f ∧ f ≤ 5) ∧ (1 ≤ need ∧ need ≤ many ∧ many ≤ 5) ∧ ((n1 : Int) = need ∧ cokz n1 z1 = true) ∧ ((n2 : Int) = many ∧ okz z2 n2 = true) := by
  unfold dlF deF coF shF; simp only [Bool.and_eq_true, decide_eq_true_eq, crew_iff, and_assoc]
theorem dl_d {f : Int} {n1 : Nat} {z1 : Nat → Int} {n2 : Nat} {z2 : Nat → Int} {need many : Int} (h : deF f = false) : dlF f n1 z1 n2 z2 need many = false := by simp [dlF, h]
theorem dl_c {f : Int} {n1 : Nat} {z1 : Nat → Int} {n2 : Nat} {z2 : Nat → Int} {need many : Int} (h : crewF need many = false) : dlF f n1 z1 n2 z2 need many = false := by simp [dlF, h]
theorem dl_n {f : Int} {n1 : Nat} {z1 : Nat → Int} {n2 : Nat} {z2 : Nat → Int} {need many : Int} (h : ¬ (n1 : Int) = need) : dlF f n1 z1 n2 z2 need many = false := by simp [dlF, coF, h]
theorem dl_k {f : Int} {n1 : Nat} {z1 : Nat → Int} {n2 : Nat} {z2 : Nat → Int} {need many : Int} (h : cokz n1 z1 = false) : dlF f n1 z1 n2 z2 need many = false := by simp [dlF, coF, h]
theorem dl_s {f : Int} {n1 : Nat} {z1 : Nat → Int} {n2 : Nat} {z2 : Nat → Int} {need many : Int} (h : shF many n2 z2 = false) : dlF f n1 z1 n2 z2 need many = false := by simp [dlF, h]
theorem dl_yes {f : Int} {n1 : Nat} {z1 : Nat → Int} {n2 : Nat} {z2 : Nat → Int} {need many : Int} (h1 : deF f = true) (h2 : crewF need many = true) (h3 : (n1 : Int) = need) (h4 : cokz n1 z1 = true) (h5 : shF many n2 z2 = true) : dlF f n1 z1 n2 z2 need many = true := by simp [dlF, coF, h1, h2, h3, h4, h5]

/-- The program's error value lies where it was laid. -/
def Sent (w : World) (a0 : Addr) : Prop := w.cell? ⟨0, 0, none⟩ = some (.iface 138 (.pointer (some a0)))
theorem Sent.lt {w : World} {a0 : Addr} (h : Sent w a0) : 0 < w.heap.size := by
  rcases Nat.lt_or_ge 0 w.heap.size with h' | h'
  · exact h'
  · unfold Sent at h; simp [World.cell?, Array.getElem?_eq_none h'] at h
theorem Sent.kept {w w' : World} {a0 : Addr} (h : Sent w a0) (hg : w.grownBy w' none) : Sent w' a0 := by
  have hl := h.lt
  unfold Sent at *
  rw [World.cell?_of_block (w := w) (hg.block _ hl (by simp))]; exact h
/-- A deal that lies in memory. -/
structure Dl (w : World) (b : Nat) (f : Int) (s1 s2 : Value) : Prop where
  lt : b < w.heap.size
  c0 : w.cell? ⟨b, 0, none⟩ = some (.int .i64 f)
  c1 : w.cell? ⟨b, 1, none⟩ = some s1
  c2 : w.cell? ⟨b, 2, none⟩ = some s2
theorem Dl.new (w : World) (f : Int) (s1 s2 : Value) (T : TypeId) : Dl (w.alloc (.cells #[.int .i64 f, s1, s2] T)) w.heap.size f s1 s2 := by
  have hb : (w.alloc (.cells #[.int .i64 f, s1, s2] T)).heap[w.heap.size]? = some (.cells #[.int .i64 f, s1, s2] T) := by show (w.heap.push _)[w.heap.size]? = _; simp
  exact ⟨by show _ < (w.heap.push _).size; simp, by simp only [World.cell?, hb]; rfl, by simp only [World.cell?, hb]; rfl, by simp only [World.cell?, hb]; rfl⟩
theorem grown_alloc_drew (w : World) (o : Obj) : w.grownBy (w.alloc o).drew none := ⟨rfl, rfl, rfl, (Draw.grown_alloc w o none).size, (Draw.grown_alloc w o none).block⟩
theorem Dl.kept {w w' : World} {b : Nat} {f : Int} {s1 s2 : Value} (h : Dl w b f s1 s2) (hg : w.grownBy w' none) : Dl w' b f s1 s2 := by
  have hb := hg.block b h.lt (by simp)
  exact ⟨Nat.lt_of_lt_of_le h.lt hg.size, by rw [World.cell?_of_block (w := w) hb]; exact h.c0, by rw [World.cell?_of_block (w := w) hb]; exact h.c1, by rw [World.cell?_of_block (w := w) hb]; exact h.c2⟩
def dlV (a0 : Addr) : Bool → Value
  | true => .nilIface
  | false => .iface 138 (.pointer (some a0))

theorem idealer (w : World) (f : Int) : Calls Tryz.prog 46 #[.int .i64 f] w fun e w' => e = .returned (.bool (deF f)) ∧ w = w' := by
  by_cases h1 : 1 ≤ f
  · by_cases h2 : f ≤ 5
    · have HR := Lib.hid (show deF f = true from decide_eq_true ⟨h1, h2⟩)
      go_enter Tryz.func46, Tryz.ntmps46
      go_wp2
      go_ret
      exact ⟨ret_b HR.out.symm, rfl⟩
    · have HR := Lib.hid (show deF f = false from decide_eq_false (by omega))
      go_enter Tryz.func46, Tryz.ntmps46
      go_wp2
      go_ret
      exact ⟨ret_b HR.out.symm, rfl⟩
  · have HR := Lib.hid (show deF f = false from decide_eq_false (by omega))
    go_enter Tryz.func46, Tryz.ntmps46
    go_wp2
    go_ret
    exact ⟨ret_b HR.out.symm, rfl⟩
theorem ishares (w : World) (a : Option Addr) (len cap : Nat) (z : Nat → Int) (m : Int) (hI : Ints w a len z) (hl : len ≤ 2000000) :
    Calls Tryz.prog 75 #[.slice a len cap, .int .i64 m] w fun e w' => e = .returned (.bool (shF m len z)) ∧ w = w' := by
  have HI := Lib.hid hI; clear hI
  by_cases h1 : (len : Int) = m
  · have HR := Lib.hid (show shF m len z = okz z len by simp [shF, h1])
    have h1' : ((len : Int) == m) = true := by simpa using h1
    clear h1
    go_enter Tryz.func75, Tryz.ntmps75
    go_wp2_with fail
    refine (iall_f _ _ _ _ z HI.out hl).mono ?_
    rintro e w' ⟨rfl, rfl⟩
    go_wp2
    go_ret
    exact ⟨ret_b HR.out.symm, rfl⟩
  · have HR := Lib.hid (show shF m len z = false by simp [shF, h1])
    have h1' : ((len : Int) == m) = false := by simpa using h1
    clear h1
    go_enter Tryz.func75, Tryz.ntmps75
    go_wp2
    go_ret
    exact ⟨ret_b HR.out.symm, rfl⟩

theorem idealerr (w : World) (f : Int) (a1 : Option Addr) (n1 c1 : Nat) (z1 : Nat → Int) (a2 : Option Addr) (n2 c2 : Nat) (z2 : Nat → Int) (need many : Int) (hA : Ints w a1 n1 z1) (hB : Ints w a2 n2 z2) (hl1 : n1 ≤ 2000000) (hl2 : n2 ≤ 2000000) (a0 : Addr) (hv : Sent w a0) :
    Calls Tryz.prog 49 #[.agg #[.int .i64 f, .slice a1 n1 c1, .slice a2 n2 c2], .int .i64 need, .int .i64 many] w fun e w' => e = .returned (dlV a0 (dlF f n1 z1 n2 z2 need many)) ∧ w.grownBy w' none := by
  have HA := Lib.hid hA; have HB := Lib.hid hB; have HV := Lib.hid hv; clear hA hB hv
  cases hd : deF f with
  | false =>
    have HR := Lib.hid (dl_d (n1 := n1) (z1 := z1) (n2 := n2) (z2 := z2) (need := need) (many := many) hd)
    go_enter Tryz.func49, Tryz.ntmps49
    go_wp2_with fail
    refine (idealer _ f).mono ?_
    rintro e w' ⟨rfl, rfl⟩
    rw [hd]
    have hv : Sent (w.alloc (.cells #[.int .i64 f, .slice a1 n1 c1, .slice a2 n2 c2] 35)) a0 := HV.out.kept (Draw.grown_alloc _ _ _)
    unfold Sent at hv
    go_wp2
    go_ret
    exact ⟨by rw [HR.out]; rfl, Draw.grown_alloc _ _ _⟩
  | true =>
    cases hc : crewF need many with
    | false =>
      have HR := Lib.hid (dl_c (f := f) (n1 := n1) (z1 := z1) (n2 := n2) (z2 := z2) hc)
      go_enter Tryz.func49, Tryz.ntmps49
      go_wp2_with fail
      refine (idealer _ f).mono ?_
      rintro e w' ⟨rfl, rfl⟩
      rw [hd]
      go_wp2_with fail
      refine (icrew _ _ many).mono ?_
      rintro e w' ⟨rfl, rfl⟩
      rw [hc]
      have hv : Sent (w.alloc (.cells #[.int .i64 f, .slice a1 n1 c1, .slice a2 n2 c2] 35)) a0 := HV.out.kept (Draw.grown_alloc _ _ _)
      unfold Sent at hv
      go_wp2
      go_ret
      exact ⟨by rw [HR.out]; rfl, Draw.grown_alloc _ _ _⟩
    | true =>
      by_cases hn : (n1 : Int) = need
      · subst hn
        cases hk : cokz n1 z1 with
        | false =>
          have HR := Lib.hid (dl_k (f := f) (n2 := n2) (z2 := z2) (need := (n1 : Int)) (many := many) hk)
          go_enter Tryz.func49, Tryz.ntmps49
          go_wp2_with fail
          refine (idealer _ f).mono ?_
          rintro e w' ⟨rfl, rfl⟩
          rw [hd]
          go_wp2_with fail
          refine (icrew _ _ many).mono ?_
          rintro e w' ⟨rfl, rfl⟩
          rw [hc]
          go_wp2_with fail
          refine (icok _ _ _ _ z1 (HA.out.kept (Draw.grown_alloc _ _ _)) (by omega)).mono ?_
          rintro e w1 ⟨rfl, hg⟩
          have HG := Lib.hid hg
          obtain ⟨_, k0, k1, k2⟩ := (Dl.new w f (.slice a1 n1 c1) (.slice a2 n2 c2) 35).kept hg
          clear hg
          rw [hk]
          have hv : Sent w1 a0 := HV.out.kept (gtr (Draw.grown_alloc _ _ _) HG.out)
          unfold Sent at hv
          go_wp2
          go_ret
          exact ⟨by rw [HR.out]; rfl, gtr (Draw.grown_alloc _ _ _) HG.out⟩
        | true =>
          cases hs : shF many n2 z2 with
          | false =>
            have HR := Lib.hid (dl_s (f := f) (n1 := n1) (z1 := z1) (need := (n1 : Int)) hs)
            go_enter Tryz.func49, Tryz.ntmps49
            go_wp2_with fail
            refine (idealer _ f).mono ?_
            rintro e w' ⟨rfl, rfl⟩
            rw [hd]
            go_wp2_with fail
            refine (icrew _ _ many).mono ?_
            rintro e w' ⟨rfl, rfl⟩
            rw [hc]
            go_wp2_with fail
            refine (icok _ _ _ _ z1 (HA.out.kept (Draw.grown_alloc _ _ _)) (by omega)).mono ?_
            rintro e w1 ⟨rfl, hg⟩
            have HG := Lib.hid hg
            obtain ⟨_, k0, k1, k2⟩ := (Dl.new w f (.slice a1 n1 c1) (.slice a2 n2 c2) 35).kept hg
            clear hg
            rw [hk]
            go_wp2_with fail
            refine (ishares _ _ _ _ z2 many (HB.out.kept (gtr (Draw.grown_alloc _ _ _) HG.out)) (by omega)).mono ?_
            rintro e w' ⟨rfl, rfl⟩
            rw [hs]
            have hv : Sent w1 a0 := HV.out.kept (gtr (Draw.grown_alloc _ _ _) HG.out)
            unfold Sent at hv
            go_wp2
            go_ret
            exact ⟨by rw [HR.out]; rfl, gtr (Draw.grown_alloc _ _ _) HG.out⟩
          | true =>
            have HR := Lib.hid (dl_yes hd hc rfl hk hs)
            go_enter Tryz.func49, Tryz.ntmps49
            go_wp2_with fail
            refine (idealer _ f).mono ?_
            rintro e w' ⟨rfl, rfl⟩
            rw [hd]
            go_wp2_with fail
            refine (icrew _ _ many).mono ?_
            rintro e w' ⟨rfl, rfl⟩
            rw [hc]
            go_wp2_with fail
            refine (icok _ _ _ _ z1 (HA.out.kept (Draw.grown_alloc _ _ _)) (by omega)).mono ?_
            rintro e w1 ⟨rfl, hg⟩
            have HG := Lib.hid hg
            obtain ⟨_, k0, k1, k2⟩ := (Dl.new w f (.slice a1 n1 c1) (.slice a2 n2 c2) 35).kept hg
            clear hg
            rw [hk]
            go_wp2_with fail
            refine (ishares _ _ _ _ z2 many (HB.out.kept (gtr (Draw.grown_alloc _ _ _) HG.out)) (by omega)).mono ?_
            rintro e w' ⟨rfl, rfl⟩
            rw [hs]
            go_wp2
            go_ret
            exact ⟨by rw [HR.out]; rfl, gtr (Draw.grown_alloc _ _ _) HG.out⟩
      · have hn_ := hn
        have HR := Lib.hid (dl_n (f := f) (z1 := z1) (n2 := n2) (z2 := z2) (many := many) hn)
        clear hn_
        go_enter Tryz.func49, Tryz.ntmps49
        go_wp2_with fail
        refine (idealer _ f).mono ?_
        rintro e w' ⟨rfl, rfl⟩
        rw [hd]
        go_wp2_with fail
        refine (icrew _ _ many).mono ?_
        rintro e w' ⟨rfl, rfl⟩
        rw [hc]
        have hv : Sent (w.alloc (.cells #[.int .i64 f, .slice a1 n1 c1, .slice a2 n2 c2] 35)) a0 := HV.out.kept (Draw.grown_alloc _ _ _)
        unfold Sent at hv
        go_wp2
        go_ret
        exact ⟨by rw [HR.out]; rfl, Draw.grown_alloc _ _ _⟩

set_option maxHeartbeats 2000000 in
theorem idealok (w : World) (f : Int) (a1 : Option Addr) (n1 c1 : Nat) (z1 : Nat → Int) (a2 : Option Addr) (n2 c2 : Nat) (z2 : Nat → Int) (need many : Int) (hA : Ints w a1 n1 z1) (hB : Ints w a2 n2 z2) (hl1 : n1 ≤ 2000000) (hl2 : n2 ≤ 2000000) (a0 : Addr) (hv : Sent w a0) :
    Calls Tryz.prog 22 #[.agg #[.int .i64 f, .slice a1 n1 c1, .slice a2 n2 c2], .int .i64 need, .int .i64 many] w fun e w' => e = .returned (.bool (dlF f n1 z1 n2 z2 need many)) ∧ w.grownBy w' none := by
  have HA := Lib.hid hA; have HB := Lib.hid hB; have HV := Lib.hid hv
  have HO := Lib.hid (grown_alloc_drew w (.cells #[.int .i64 f, .slice a1 n1 c1, .slice a2 n2 c2] 35))
  have hvA : Sent (w.alloc (.cells #[.int .i64 f, .slice a1 n1 c1, .slice a2 n2 c2] 35)) a0 := hv.kept (Draw.grown_alloc _ _ _)
  have hvD : Sent ((w.alloc (.cells #[.int .i64 f, .slice a1 n1 c1, .slice a2 n2 c2] 35)).drew) a0 := hv.kept HO.out
  clear hA hB
  unfold Sent at hv hvA hvD
  cases hp : dlF f n1 z1 n2 z2 need many with
  | true =>
    go_enter Tryz.func22, Tryz.ntmps22
    go_wp2_with fail
    go_region_with (first
      | (go_at_call 49; refine (idealerr _ f _ _ _ z1 _ _ _ z2 _ _ ?_ ?_ hl1 hl2 a0 ?_).mono ?_; exact HA.out.kept HO.out; exact HB.out.kept HO.out; exact HV.out.kept HO.out; rintro e w1 ⟨rfl, hg⟩; rw [hp]; have hv1 : w1.cell? ⟨0, 0, none⟩ = some (.iface 138 (.pointer (some a0))) := HV.out.kept (gtr HO.out hg); have HG := Lib.hid (gtr HO.out hg); clear hg)
      | (go_at_call 48; refine (is_nil a0 _).mono ?_; rintro e w' ⟨rfl, rfl⟩))
    all_goals (try go_wp2)
    all_goals (go_ret; exact ⟨rfl, ⟨HG.out.os, HG.out.tape, HG.out.output, HG.out.size, HG.out.block⟩⟩)
  | false =>
    go_enter Tryz.func22, Tryz.ntmps22
    go_wp2_with fail
    go_region_with (first
      | (go_at_call 49; refine (idealerr _ f _ _ _ z1 _ _ _ z2 _ _ ?_ ?_ hl1 hl2 a0 ?_).mono ?_; exact HA.out.kept HO.out; exact HB.out.kept HO.out; exact HV.out.kept HO.out; rintro e w1 ⟨rfl, hg⟩; rw [hp]; have hv1 : w1.cell? ⟨0, 0, none⟩ = some (.iface 138 (.pointer (some a0))) := HV.out.kept (gtr HO.out hg); have HG := Lib.hid (gtr HO.out hg); clear hg)
      | (go_at_call 48; refine (is_same a0 _).mono ?_; rintro e w' ⟨rfl, rfl⟩))
    all_goals (try go_wp2)
    all_goals (go_ret; exact ⟨rfl, ⟨HG.out.os, HG.out.tape, HG.out.output, HG.out.size, HG.out.block⟩⟩)
end Con
end Go.Proofs.YtonhdkideianiaaGreatDoor
