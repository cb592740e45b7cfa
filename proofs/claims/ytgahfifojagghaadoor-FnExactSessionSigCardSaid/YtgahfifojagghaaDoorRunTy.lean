/-
  The walk of the exact law on signatures of sessions.
-/
import Derived.Test.YtgahfifojagghaaDoorTg
import Derived.Test.YtgahfifojagghaaDoorUm
import Derived.Test.YtgahfifojagghaaDoorGs
import Derived.Test.YtgahfifojagghaaDoorWk
import Derived.Deep.RegionHeld3
namespace Go.Proofs.YtgahfifojagghaaDoor
namespace Run
open Go.RowKit Alg Mem Con Mp Hd
set_option linter.unusedVariables false

set_option maxRecDepth 100000 in
set_option maxHeartbeats 8000000 in
theorem FnExactSessionSig (sneed smany : Int) (sag : Option Addr) (sng scg : Nat) (szg : Nat → Int) (sac : Option Addr) (snc scc : Nat) (szc : Nat → Int) (smsg : Int) (sa : Option Addr) (sn sc : Nat) (sS : Nat → SV) (w : World) (sA10 : Ints w sag sng szg) (sA20 : Ints w sac snc szc) (sA30 : ShIn w sa sn sS) (shm1 : sng ≤ maxLen) (shm2 : snc ≤ maxLen) (shm3 : sn ≤ maxLen) (ad : Addr) (hv0 : Np w ad) :
    Calls Tryd.prog 3 #[.agg #[.int .i64 sneed, .int .i64 smany, .slice sag sng scg, .slice sac snc scc, .int .i64 smsg, .slice sa sn sc]] w (Yes w) := by
  have G := Lib.hid (Draw.grown_alloc w (.cells #[.int .i64 sneed, .int .i64 smany, .slice sag sng scg, .slice sac snc scc, .int .i64 smsg, .slice sa sn sc] 27) none)
  have B0 := Lib.hid (Blk.new w #[.int .i64 sneed, .int .i64 smany, .slice sag sng scg, .slice sac snc scc, .int .i64 smsg, .slice sa sn sc] 27)
  replace sA10 := Lib.hid sA10
  have sA1 := Lib.hid (sA10.out.kept G.out)
  replace sA20 := Lib.hid sA20
  have sA2 := Lib.hid (sA20.out.kept G.out)
  replace sA30 := Lib.hid sA30
  have sA3 := Lib.hid (sA30.out.kept G.out)
  replace hv0 := Lib.hid hv0
  have hv := Lib.hid (hv0.out.kept G.out)
  go_enter Tryd.func3, Tryd.ntmps3
  have B0_0 : World.cell? _ ⟨w.heap.size, 0, none⟩ = some (.int .i64 sneed) := B0.out.cell 0
  have B0_1 : World.cell? _ ⟨w.heap.size, 1, none⟩ = some (.int .i64 smany) := B0.out.cell 1
  have B0_2 : World.cell? _ ⟨w.heap.size, 2, none⟩ = some (.slice sag sng scg) := B0.out.cell 2
  have B0_3 : World.cell? _ ⟨w.heap.size, 3, none⟩ = some (.slice sac snc scc) := B0.out.cell 3
  have B0_4 : World.cell? _ ⟨w.heap.size, 4, none⟩ = some (.int .i64 smsg) := B0.out.cell 4
  have B0_5 : World.cell? _ ⟨w.heap.size, 5, none⟩ = some (.slice sa sn sc) := B0.out.cell 5
  have B0_l := B0.out.lt
  go_wp2_with fail
  refine (szses _ sneed smany _ sng _ _ snc _ smsg _ sn _ 1048576 (by omega) (by omega) shm1 shm2 shm3).mono ?_
  rintro e v1 ⟨r0, rfl, hg, hr⟩
  clear B0_0 B0_1 B0_2 B0_3 B0_4 B0_5 B0_l
  replace G := Lib.hid (gtr G.out hg)
  replace B0 := Lib.hid (B0.out.keptN hg)
  replace sA1 := Lib.hid (sA10.out.kept G.out)
  replace sA2 := Lib.hid (sA20.out.kept G.out)
  replace sA3 := Lib.hid (sA30.out.kept G.out)
  replace hv := Lib.hid (hv0.out.kept G.out)
  clear hg
  rcases hr with rfl | ⟨h0a, h0b, shl1, shl2, shl3⟩
  · go_wp2
    go_ret
    exact ⟨rfl, Draw.below_of G.out⟩
  have hn0 : ¬ r0 < 0 := by omega
  have B0_0 : World.cell? _ ⟨w.heap.size, 0, none⟩ = some (.int .i64 sneed) := B0.out.cell 0
  have B0_1 : World.cell? _ ⟨w.heap.size, 1, none⟩ = some (.int .i64 smany) := B0.out.cell 1
  have B0_2 : World.cell? _ ⟨w.heap.size, 2, none⟩ = some (.slice sag sng scg) := B0.out.cell 2
  have B0_3 : World.cell? _ ⟨w.heap.size, 3, none⟩ = some (.slice sac snc scc) := B0.out.cell 3
  have B0_4 : World.cell? _ ⟨w.heap.size, 4, none⟩ = some (.int .i64 smsg) := B0.out.cell 4
  have B0_5 : World.cell? _ ⟨w.heap.size, 5, none⟩ = some (.slice sa sn sc) := B0.out.cell 5
  have B0_l := B0.out.lt
  go_wp2_with fail
  refine (toses _ sneed smany _ sng _ szg _ snc _ szc smsg _ sn _ sS sA1.out sA2.out sA3.out (by omega) (by omega) (by omega)).mono ?_
  rintro e v2 ⟨s0b1, s0b2, s0b3, rfl, s0h, s0k, s0r1, s0r2, s0r3, hg⟩
  clear B0_0 B0_1 B0_2 B0_3 B0_4 B0_5 B0_l
  replace G := Lib.hid (gtr G.out hg)
  replace B0 := Lib.hid (B0.out.keptN hg)
  replace sA1 := Lib.hid (sA10.out.kept G.out)
  replace sA2 := Lib.hid (sA20.out.kept G.out)
  replace sA3 := Lib.hid (sA30.out.kept G.out)
  replace hv := Lib.hid (hv0.out.kept G.out)
  clear hg
  have s0P1 := Lib.hid (s0r1.ints)
  have s0P2 := Lib.hid (s0r2.ints)
  have s0P3 := Lib.hid (s0r3.sh)
  clear s0h s0k s0r1 s0r2 s0r3
  have B0_0 : World.cell? _ ⟨w.heap.size, 0, none⟩ = some (.int .i64 sneed) := B0.out.cell 0
  have B0_1 : World.cell? _ ⟨w.heap.size, 1, none⟩ = some (.int .i64 smany) := B0.out.cell 1
  have B0_2 : World.cell? _ ⟨w.heap.size, 2, none⟩ = some (.slice sag sng scg) := B0.out.cell 2
  have B0_3 : World.cell? _ ⟨w.heap.size, 3, none⟩ = some (.slice sac snc scc) := B0.out.cell 3
  have B0_4 : World.cell? _ ⟨w.heap.size, 4, none⟩ = some (.int .i64 smsg) := B0.out.cell 4
  have B0_5 : World.cell? _ ⟨w.heap.size, 5, none⟩ = some (.slice sa sn sc) := B0.out.cell 5
  have B0_l := B0.out.lt
  go_wp2_with fail
  refine (ssesSig _ sneed smany _ sng _ szg _ snc _ szc smsg _ sn _ sS s0P1.out s0P2.out s0P3.out (by omega) (by omega) (by omega)).mono ?_
  rintro e v3 ⟨rfl, hg⟩
  rw [ssV_eq]
  clear B0_0 B0_1 B0_2 B0_3 B0_4 B0_5 B0_l
  replace G := Lib.hid (gtr G.out hg)
  replace B0 := Lib.hid (B0.out.keptN hg)
  replace sA1 := Lib.hid (sA10.out.kept G.out)
  replace sA2 := Lib.hid (sA20.out.kept G.out)
  replace sA3 := Lib.hid (sA30.out.kept G.out)
  replace hv := Lib.hid (hv0.out.kept G.out)
  replace s0P1 := Lib.hid (s0P1.out.kept hg)
  replace s0P2 := Lib.hid (s0P2.out.kept hg)
  replace s0P3 := Lib.hid (s0P3.out.kept hg)
  clear hg
  clear s0P1 s0P2 s0P3
  have hg := Draw.grown_alloc v3 (.cells #[.int .i64 (ssR sneed smany sng szg snc szc smsg sn sS), .int .i64 (ssZ sneed smany sng szg snc szc smsg sn sS)] 30) none
  have Z := Lib.hid (Blk.new v3 #[.int .i64 (ssR sneed smany sng szg snc szc smsg sn sS), .int .i64 (ssZ sneed smany sng szg snc szc smsg sn sS)] 30)
  replace G := Lib.hid (gtr G.out hg)
  replace B0 := Lib.hid (B0.out.keptN hg)
  replace sA1 := Lib.hid (sA10.out.kept G.out)
  replace sA2 := Lib.hid (sA20.out.kept G.out)
  replace sA3 := Lib.hid (sA30.out.kept G.out)
  replace hv := Lib.hid (hv0.out.kept G.out)
  clear hg
  have B0_0 : World.cell? _ ⟨w.heap.size, 0, none⟩ = some (.int .i64 sneed) := B0.out.cell 0
  have B0_1 : World.cell? _ ⟨w.heap.size, 1, none⟩ = some (.int .i64 smany) := B0.out.cell 1
  have B0_2 : World.cell? _ ⟨w.heap.size, 2, none⟩ = some (.slice sag sng scg) := B0.out.cell 2
  have B0_3 : World.cell? _ ⟨w.heap.size, 3, none⟩ = some (.slice sac snc scc) := B0.out.cell 3
  have B0_4 : World.cell? _ ⟨w.heap.size, 4, none⟩ = some (.int .i64 smsg) := B0.out.cell 4
  have B0_5 : World.cell? _ ⟨w.heap.size, 5, none⟩ = some (.slice sa sn sc) := B0.out.cell 5
  have B0_l := B0.out.lt
  have Z_0 : World.cell? _ ⟨v3.heap.size, 0, none⟩ = some (.int .i64 (ssR sneed smany sng szg snc szc smsg sn sS)) := Z.out.cell 0
  have Z_1 : World.cell? _ ⟨v3.heap.size, 1, none⟩ = some (.int .i64 (ssZ sneed smany sng szg snc szc smsg sn sS)) := Z.out.cell 1
  have Z_l := Z.out.lt
  go_wp2_with fail
  refine (toses _ sneed smany _ sng _ szg _ snc _ szc smsg _ sn _ sS sA1.out sA2.out sA3.out (by omega) (by omega) (by omega)).mono ?_
  rintro e v4 ⟨x0b1, x0b2, x0b3, rfl, x0h, x0k, x0r1, x0r2, x0r3, hg⟩
  clear B0_0 B0_1 B0_2 B0_3 B0_4 B0_5 Z_0 Z_1 B0_l Z_l
  replace G := Lib.hid (gtr G.out hg)
  replace B0 := Lib.hid (B0.out.keptN hg)
  replace sA1 := Lib.hid (sA10.out.kept G.out)
  replace sA2 := Lib.hid (sA20.out.kept G.out)
  replace sA3 := Lib.hid (sA30.out.kept G.out)
  replace hv := Lib.hid (hv0.out.kept G.out)
  replace Z := Lib.hid (Z.out.keptN hg)
  clear hg
  have Cx0 := Lib.hid (Draw.grown_refl v4 none)
  have x0P1 := Lib.hid (x0r1.ints)
  have x0P10 := x0P1
  have x0P2 := Lib.hid (x0r2.ints)
  have x0P20 := x0P2
  have x0P3 := Lib.hid (x0r3.sh)
  have x0P30 := x0P3
  clear x0h x0k x0r1 x0r2 x0r3
  have hg := Draw.grown_alloc v4 (.cells #[.int .i64 sneed, .int .i64 smany, .slice (some ⟨x0b1, 0, none⟩) sng sng, .slice (some ⟨x0b2, 0, none⟩) snc snc, .int .i64 smsg, .slice (some ⟨x0b3, 0, none⟩) sn sn] 36) none
  have Y0 := Lib.hid (Blk.new v4 #[.int .i64 sneed, .int .i64 smany, .slice (some ⟨x0b1, 0, none⟩) sng sng, .slice (some ⟨x0b2, 0, none⟩) snc snc, .int .i64 smsg, .slice (some ⟨x0b3, 0, none⟩) sn sn] 36)
  replace G := Lib.hid (gtr G.out hg)
  replace B0 := Lib.hid (B0.out.keptN hg)
  replace sA1 := Lib.hid (sA10.out.kept G.out)
  replace sA2 := Lib.hid (sA20.out.kept G.out)
  replace sA3 := Lib.hid (sA30.out.kept G.out)
  replace hv := Lib.hid (hv0.out.kept G.out)
  replace Z := Lib.hid (Z.out.keptN hg)
  replace Cx0 := Lib.hid (gtr Cx0.out hg)
  replace x0P1 := Lib.hid (x0P10.out.kept Cx0.out)
  replace x0P2 := Lib.hid (x0P20.out.kept Cx0.out)
  replace x0P3 := Lib.hid (x0P30.out.kept Cx0.out)
  clear hg
  have B0_0 : World.cell? _ ⟨w.heap.size, 0, none⟩ = some (.int .i64 sneed) := B0.out.cell 0
  have B0_1 : World.cell? _ ⟨w.heap.size, 1, none⟩ = some (.int .i64 smany) := B0.out.cell 1
  have B0_2 : World.cell? _ ⟨w.heap.size, 2, none⟩ = some (.slice sag sng scg) := B0.out.cell 2
  have B0_3 : World.cell? _ ⟨w.heap.size, 3, none⟩ = some (.slice sac snc scc) := B0.out.cell 3
  have B0_4 : World.cell? _ ⟨w.heap.size, 4, none⟩ = some (.int .i64 smsg) := B0.out.cell 4
  have B0_5 : World.cell? _ ⟨w.heap.size, 5, none⟩ = some (.slice sa sn sc) := B0.out.cell 5
  have B0_l := B0.out.lt
  have Z_0 : World.cell? _ ⟨v3.heap.size, 0, none⟩ = some (.int .i64 (ssR sneed smany sng szg snc szc smsg sn sS)) := Z.out.cell 0
  have Z_1 : World.cell? _ ⟨v3.heap.size, 1, none⟩ = some (.int .i64 (ssZ sneed smany sng szg snc szc smsg sn sS)) := Z.out.cell 1
  have Z_l := Z.out.lt
  have Y0_0 : World.cell? _ ⟨v4.heap.size, 0, none⟩ = some (.int .i64 sneed) := Y0.out.cell 0
  have Y0_1 : World.cell? _ ⟨v4.heap.size, 1, none⟩ = some (.int .i64 smany) := Y0.out.cell 1
  have Y0_2 : World.cell? _ ⟨v4.heap.size, 2, none⟩ = some (.slice (some ⟨x0b1, 0, none⟩) sng sng) := Y0.out.cell 2
  have Y0_3 : World.cell? _ ⟨v4.heap.size, 3, none⟩ = some (.slice (some ⟨x0b2, 0, none⟩) snc snc) := Y0.out.cell 3
  have Y0_4 : World.cell? _ ⟨v4.heap.size, 4, none⟩ = some (.int .i64 smsg) := Y0.out.cell 4
  have Y0_5 : World.cell? _ ⟨v4.heap.size, 5, none⟩ = some (.slice (some ⟨x0b3, 0, none⟩) sn sn) := Y0.out.cell 5
  have Y0_l := Y0.out.lt
  go_wp2_with fail
  refine (isesSig _ sneed smany _ sng _ szg _ snc _ szc smsg _ sn _ sS ad x0P1.out x0P2.out x0P3.out (by omega) (by omega) (by omega) hv.out).mono ?_
  rintro e v5 ⟨rfl, hg⟩
  rw [ssV_eq]
  clear B0_0 B0_1 B0_2 B0_3 B0_4 B0_5 Z_0 Z_1 Y0_0 Y0_1 Y0_2 Y0_3 Y0_4 Y0_5 B0_l Z_l Y0_l
  replace G := Lib.hid (gtr G.out hg)
  replace B0 := Lib.hid (B0.out.keptN hg)
  replace sA1 := Lib.hid (sA10.out.kept G.out)
  replace sA2 := Lib.hid (sA20.out.kept G.out)
  replace sA3 := Lib.hid (sA30.out.kept G.out)
  replace hv := Lib.hid (hv0.out.kept G.out)
  replace Z := Lib.hid (Z.out.keptN hg)
  replace Cx0 := Lib.hid (gtr Cx0.out hg)
  replace x0P1 := Lib.hid (x0P10.out.kept Cx0.out)
  replace x0P2 := Lib.hid (x0P20.out.kept Cx0.out)
  replace x0P3 := Lib.hid (x0P30.out.kept Cx0.out)
  replace Y0 := Lib.hid (Y0.out.keptN hg)
  clear hg
  have hg := Draw.grown_alloc v5 (.cells #[.int .i64 (ssR sneed smany sng szg snc szc smsg sn sS), .int .i64 (ssZ sneed smany sng szg snc szc smsg sn sS)] 30) none
  have Q := Lib.hid (Blk.new v5 #[.int .i64 (ssR sneed smany sng szg snc szc smsg sn sS), .int .i64 (ssZ sneed smany sng szg snc szc smsg sn sS)] 30)
  replace G := Lib.hid (gtr G.out hg)
  replace B0 := Lib.hid (B0.out.keptN hg)
  replace sA1 := Lib.hid (sA10.out.kept G.out)
  replace sA2 := Lib.hid (sA20.out.kept G.out)
  replace sA3 := Lib.hid (sA30.out.kept G.out)
  replace hv := Lib.hid (hv0.out.kept G.out)
  replace Z := Lib.hid (Z.out.keptN hg)
  replace Cx0 := Lib.hid (gtr Cx0.out hg)
  replace x0P1 := Lib.hid (x0P10.out.kept Cx0.out)
  replace x0P2 := Lib.hid (x0P20.out.kept Cx0.out)
  replace x0P3 := Lib.hid (x0P30.out.kept Cx0.out)
  replace Y0 := Lib.hid (Y0.out.keptN hg)
  clear hg
  have B0_0 : World.cell? _ ⟨w.heap.size, 0, none⟩ = some (.int .i64 sneed) := B0.out.cell 0
  have B0_1 : World.cell? _ ⟨w.heap.size, 1, none⟩ = some (.int .i64 smany) := B0.out.cell 1
  have B0_2 : World.cell? _ ⟨w.heap.size, 2, none⟩ = some (.slice sag sng scg) := B0.out.cell 2
  have B0_3 : World.cell? _ ⟨w.heap.size, 3, none⟩ = some (.slice sac snc scc) := B0.out.cell 3
  have B0_4 : World.cell? _ ⟨w.heap.size, 4, none⟩ = some (.int .i64 smsg) := B0.out.cell 4
  have B0_5 : World.cell? _ ⟨w.heap.size, 5, none⟩ = some (.slice sa sn sc) := B0.out.cell 5
  have B0_l := B0.out.lt
  have Z_0 : World.cell? _ ⟨v3.heap.size, 0, none⟩ = some (.int .i64 (ssR sneed smany sng szg snc szc smsg sn sS)) := Z.out.cell 0
  have Z_1 : World.cell? _ ⟨v3.heap.size, 1, none⟩ = some (.int .i64 (ssZ sneed smany sng szg snc szc smsg sn sS)) := Z.out.cell 1
  have Z_l := Z.out.lt
  have Y0_0 : World.cell? _ ⟨v4.heap.size, 0, none⟩ = some (.int .i64 sneed) := Y0.out.cell 0
  have Y0_1 : World.cell? _ ⟨v4.heap.size, 1, none⟩ = some (.int .i64 smany) := Y0.out.cell 1
  have Y0_2 : World.cell? _ ⟨v4.heap.size, 2, none⟩ = some (.slice (some ⟨x0b1, 0, none⟩) sng sng) := Y0.out.cell 2
  have Y0_3 : World.cell? _ ⟨v4.heap.size, 3, none⟩ = some (.slice (some ⟨x0b2, 0, none⟩) snc snc) := Y0.out.cell 3
  have Y0_4 : World.cell? _ ⟨v4.heap.size, 4, none⟩ = some (.int .i64 smsg) := Y0.out.cell 4
  have Y0_5 : World.cell? _ ⟨v4.heap.size, 5, none⟩ = some (.slice (some ⟨x0b3, 0, none⟩) sn sn) := Y0.out.cell 5
  have Y0_l := Y0.out.lt
  have Q_0 : World.cell? _ ⟨v5.heap.size, 0, none⟩ = some (.int .i64 (ssR sneed smany sng szg snc szc smsg sn sS)) := Q.out.cell 0
  have Q_1 : World.cell? _ ⟨v5.heap.size, 1, none⟩ = some (.int .i64 (ssZ sneed smany sng szg snc szc smsg sn sS)) := Q.out.cell 1
  have Q_l := Q.out.lt
  go_wp2_with fail
  refine (eqsig _ (ssR sneed smany sng szg snc szc smsg sn sS) (ssZ sneed smany sng szg snc szc smsg sn sS)).mono ?_
  rintro e v6 ⟨rfl, hg⟩
  clear B0_0 B0_1 B0_2 B0_3 B0_4 B0_5 Z_0 Z_1 Y0_0 Y0_1 Y0_2 Y0_3 Y0_4 Y0_5 Q_0 Q_1 B0_l Z_l Y0_l Q_l
  replace G := Lib.hid (gtr G.out hg)
  replace B0 := Lib.hid (B0.out.keptN hg)
  replace sA1 := Lib.hid (sA10.out.kept G.out)
  replace sA2 := Lib.hid (sA20.out.kept G.out)
  replace sA3 := Lib.hid (sA30.out.kept G.out)
  replace hv := Lib.hid (hv0.out.kept G.out)
  replace Z := Lib.hid (Z.out.keptN hg)
  replace Cx0 := Lib.hid (gtr Cx0.out hg)
  replace x0P1 := Lib.hid (x0P10.out.kept Cx0.out)
  replace x0P2 := Lib.hid (x0P20.out.kept Cx0.out)
  replace x0P3 := Lib.hid (x0P30.out.kept Cx0.out)
  replace Y0 := Lib.hid (Y0.out.keptN hg)
  replace Q := Lib.hid (Q.out.keptN hg)
  clear hg
  have hne0 : (sgO sneed smany sng szg snc szc smsg sn sS != sgO sneed smany sng szg snc szc smsg sn sS) = false := by simp
  have B0_0 : World.cell? _ ⟨w.heap.size, 0, none⟩ = some (.int .i64 sneed) := B0.out.cell 0
  have B0_1 : World.cell? _ ⟨w.heap.size, 1, none⟩ = some (.int .i64 smany) := B0.out.cell 1
  have B0_2 : World.cell? _ ⟨w.heap.size, 2, none⟩ = some (.slice sag sng scg) := B0.out.cell 2
  have B0_3 : World.cell? _ ⟨w.heap.size, 3, none⟩ = some (.slice sac snc scc) := B0.out.cell 3
  have B0_4 : World.cell? _ ⟨w.heap.size, 4, none⟩ = some (.int .i64 smsg) := B0.out.cell 4
  have B0_5 : World.cell? _ ⟨w.heap.size, 5, none⟩ = some (.slice sa sn sc) := B0.out.cell 5
  have B0_l := B0.out.lt
  have Z_0 : World.cell? _ ⟨v3.heap.size, 0, none⟩ = some (.int .i64 (ssR sneed smany sng szg snc szc smsg sn sS)) := Z.out.cell 0
  have Z_1 : World.cell? _ ⟨v3.heap.size, 1, none⟩ = some (.int .i64 (ssZ sneed smany sng szg snc szc smsg sn sS)) := Z.out.cell 1
  have Z_l := Z.out.lt
  have Y0_0 : World.cell? _ ⟨v4.heap.size, 0, none⟩ = some (.int .i64 sneed) := Y0.out.cell 0
  have Y0_1 : World.cell? _ ⟨v4.heap.size, 1, none⟩ = some (.int .i64 smany) := Y0.out.cell 1
  have Y0_2 : World.cell? _ ⟨v4.heap.size, 2, none⟩ = some (.slice (some ⟨x0b1, 0, none⟩) sng sng) := Y0.out.cell 2
  have Y0_3 : World.cell? _ ⟨v4.heap.size, 3, none⟩ = some (.slice (some ⟨x0b2, 0, none⟩) snc snc) := Y0.out.cell 3
  have Y0_4 : World.cell? _ ⟨v4.heap.size, 4, none⟩ = some (.int .i64 smsg) := Y0.out.cell 4
  have Y0_5 : World.cell? _ ⟨v4.heap.size, 5, none⟩ = some (.slice (some ⟨x0b3, 0, none⟩) sn sn) := Y0.out.cell 5
  have Y0_l := Y0.out.lt
  have Q_0 : World.cell? _ ⟨v5.heap.size, 0, none⟩ = some (.int .i64 (ssR sneed smany sng szg snc szc smsg sn sS)) := Q.out.cell 0
  have Q_1 : World.cell? _ ⟨v5.heap.size, 1, none⟩ = some (.int .i64 (ssZ sneed smany sng szg snc szc smsg sn sS)) := Q.out.cell 1
  have Q_l := Q.out.lt
  go_wp2_with fail
  clear B0_0 B0_1 B0_2 B0_3 B0_4 B0_5 Z_0 Z_1 Y0_0 Y0_1 Y0_2 Y0_3 Y0_4 Y0_5 Q_0 Q_1 B0_l Z_l Y0_l Q_l
  refine wp_region_held_drew (S := (fun w' => w'.cell? ⟨w.heap.size, 0, none⟩ = some (.int .i64 sneed) ∧ w'.cell? ⟨w.heap.size, 1, none⟩ = some (.int .i64 smany) ∧ w'.cell? ⟨w.heap.size, 2, none⟩ = some (.slice sag sng scg) ∧ w'.cell? ⟨w.heap.size, 3, none⟩ = some (.slice sac snc scc) ∧ w'.cell? ⟨w.heap.size, 4, none⟩ = some (.int .i64 smsg) ∧ w'.cell? ⟨w.heap.size, 5, none⟩ = some (.slice sa sn sc) ∧ w'.cell? ⟨v3.heap.size, 0, none⟩ = some (.int .i64 (ssR sneed smany sng szg snc szc smsg sn sS)) ∧ w'.cell? ⟨v3.heap.size, 1, none⟩ = some (.int .i64 (ssZ sneed smany sng szg snc szc smsg sn sS)) ∧ w'.cell? ⟨v4.heap.size, 0, none⟩ = some (.int .i64 sneed) ∧ w'.cell? ⟨v4.heap.size, 1, none⟩ = some (.int .i64 smany) ∧ w'.cell? ⟨v4.heap.size, 2, none⟩ = some (.slice (some ⟨x0b1, 0, none⟩) sng sng) ∧ w'.cell? ⟨v4.heap.size, 3, none⟩ = some (.slice (some ⟨x0b2, 0, none⟩) snc snc) ∧ w'.cell? ⟨v4.heap.size, 4, none⟩ = some (.int .i64 smsg) ∧ w'.cell? ⟨v4.heap.size, 5, none⟩ = some (.slice (some ⟨x0b3, 0, none⟩) sn sn) ∧ w'.cell? ⟨v5.heap.size, 0, none⟩ = some (.int .i64 (ssR sneed smany sng szg snc szc smsg sn sS)) ∧ w'.cell? ⟨v5.heap.size, 1, none⟩ = some (.int .i64 (ssZ sneed smany sng szg snc szc smsg sn sS)))) (by kernel_rfl) (⟨B0.out.cell 0, B0.out.cell 1, B0.out.cell 2, B0.out.cell 3, B0.out.cell 4, B0.out.cell 5, Z.out.cell 0, Z.out.cell 1, Y0.out.cell 0, Y0.out.cell 1, Y0.out.cell 2, Y0.out.cell 3, Y0.out.cell 4, Y0.out.cell 5, Q.out.cell 0, Q.out.cell 1⟩) (fun hHeld => ?_)
  have hg := Draw.gdrew v6
  replace G := Lib.hid (gtr G.out hg)
  replace B0 := Lib.hid (B0.out.keptN hg)
  replace sA1 := Lib.hid (sA10.out.kept G.out)
  replace sA2 := Lib.hid (sA20.out.kept G.out)
  replace sA3 := Lib.hid (sA30.out.kept G.out)
  replace hv := Lib.hid (hv0.out.kept G.out)
  replace Z := Lib.hid (Z.out.keptN hg)
  replace Cx0 := Lib.hid (gtr Cx0.out hg)
  replace x0P1 := Lib.hid (x0P10.out.kept Cx0.out)
  replace x0P2 := Lib.hid (x0P20.out.kept Cx0.out)
  replace x0P3 := Lib.hid (x0P30.out.kept Cx0.out)
  replace Y0 := Lib.hid (Y0.out.keptN hg)
  replace Q := Lib.hid (Q.out.keptN hg)
  clear hg
  generalize (v6).drew = v7 at *
  refine wpAnyH_take (i := 0) (oi := ⟨some 36, _, _, _, _, _⟩) (v := ?_) rfl (by kernel_rfl) (by kernel_rfl) (by kernel_rfl) (fun _ _ _ h => h) (Or.inl ⟨by rfl, ?_⟩) (by assumption) ?_
  rotate_left
  · intro w hSw; (try dsimp only at hSw); go_simp; try with_reducible rfl
  simp only [Act.put, List.setIfInBounds_toArray, List.set_cons_zero, List.set_cons_succ]
  refine wpAnyH_take (i := 1) (oi := ⟨some 37, _, _, _, _, _⟩) (v := ?_) rfl (by kernel_rfl) (by kernel_rfl) (by kernel_rfl) (fun _ _ _ h => h) (Or.inl ⟨by rfl, ?_⟩) (by assumption) ?_
  rotate_left
  · intro w hSw; (try dsimp only at hSw); go_simp; try with_reducible rfl
  simp only [Act.put, List.setIfInBounds_toArray, List.set_cons_zero, List.set_cons_succ]
  refine wpAnyH_ready (rs := [2]) (by kernel_rfl) (by simp) ?_
  refine AllReadyH.cons (o := ⟨some 38, _, _, _, _, _⟩) rfl (fun Kq hKq => ?_) AllReadyH.nil
  go_simp
  go_at_call 6
  refine (toses _ sneed smany _ sng _ szg _ snc _ szc smsg _ sn _ sS sA1.out sA2.out sA3.out (by omega) (by omega) (by omega)).mono ?_
  rintro e v8 ⟨y0b1, y0b2, y0b3, rfl, y0h, y0k, y0r1, y0r2, y0r3, hg⟩
  have y0P1 := Lib.hid (y0r1.ints)
  have y0P2 := Lib.hid (y0r2.ints)
  have y0P3 := Lib.hid (y0r3.sh)
  replace G := Lib.hid (gtr G.out hg)
  replace B0 := Lib.hid (B0.out.keptN hg)
  replace sA1 := Lib.hid (sA10.out.kept G.out)
  replace sA2 := Lib.hid (sA20.out.kept G.out)
  replace sA3 := Lib.hid (sA30.out.kept G.out)
  replace hv := Lib.hid (hv0.out.kept G.out)
  replace Z := Lib.hid (Z.out.keptN hg)
  replace Cx0 := Lib.hid (gtr Cx0.out hg)
  replace x0P1 := Lib.hid (x0P10.out.kept Cx0.out)
  replace x0P2 := Lib.hid (x0P20.out.kept Cx0.out)
  replace x0P3 := Lib.hid (x0P30.out.kept Cx0.out)
  replace Y0 := Lib.hid (Y0.out.keptN hg)
  replace Q := Lib.hid (Q.out.keptN hg)
  clear hg
  clear y0h y0k y0r1 y0r2 y0r3
  refine hKq.out _ _ (⟨B0.out.cell 0, B0.out.cell 1, B0.out.cell 2, B0.out.cell 3, B0.out.cell 4, B0.out.cell 5, Z.out.cell 0, Z.out.cell 1, Y0.out.cell 0, Y0.out.cell 1, Y0.out.cell 2, Y0.out.cell 3, Y0.out.cell 4, Y0.out.cell 5, Q.out.cell 0, Q.out.cell 1⟩) (fun hHeld => ?_)
  clear hKq Kq
  refine wpAnyH_ready (rs := [3]) (by kernel_rfl) (by simp) ?_
  refine AllReadyH.cons (o := ⟨some 39, _, _, _, _, _⟩) rfl (fun Kq hKq => ?_) AllReadyH.nil
  go_simp
  go_at_call 9
  refine (eqses _ sneed smany _ _ _ _ sng _ _ szg snc _ _ szc smsg _ _ sn _ _ sS x0P1.out x0P2.out y0P1.out y0P2.out x0P3.out y0P3.out (by omega) (by omega) (by omega)).mono ?_
  rintro e v9 ⟨rfl, hg⟩
  replace G := Lib.hid (gtr G.out hg)
  replace B0 := Lib.hid (B0.out.keptN hg)
  replace sA1 := Lib.hid (sA10.out.kept G.out)
  replace sA2 := Lib.hid (sA20.out.kept G.out)
  replace sA3 := Lib.hid (sA30.out.kept G.out)
  replace hv := Lib.hid (hv0.out.kept G.out)
  replace Z := Lib.hid (Z.out.keptN hg)
  replace Cx0 := Lib.hid (gtr Cx0.out hg)
  replace x0P1 := Lib.hid (x0P10.out.kept Cx0.out)
  replace x0P2 := Lib.hid (x0P20.out.kept Cx0.out)
  replace x0P3 := Lib.hid (x0P30.out.kept Cx0.out)
  replace Y0 := Lib.hid (Y0.out.keptN hg)
  replace Q := Lib.hid (Q.out.keptN hg)
  replace y0P1 := Lib.hid (y0P1.out.kept hg)
  replace y0P2 := Lib.hid (y0P2.out.kept hg)
  replace y0P3 := Lib.hid (y0P3.out.kept hg)
  clear hg
  clear y0P1 y0P2 y0P3
  refine hKq.out _ _ (⟨B0.out.cell 0, B0.out.cell 1, B0.out.cell 2, B0.out.cell 3, B0.out.cell 4, B0.out.cell 5, Z.out.cell 0, Z.out.cell 1, Y0.out.cell 0, Y0.out.cell 1, Y0.out.cell 2, Y0.out.cell 3, Y0.out.cell 4, Y0.out.cell 5, Q.out.cell 0, Q.out.cell 1⟩) (fun hHeld => ?_)
  clear hKq Kq
  refine wpAnyH_take (i := 4) (oi := ⟨some 40, _, _, _, _, _⟩) (v := ?_) rfl (by kernel_rfl) (by kernel_rfl) (by kernel_rfl) (fun _ _ _ h => h) (Or.inl ⟨by rfl, ?_⟩) (by assumption) ?_
  rotate_left
  · intro w hSw; (try dsimp only at hSw); go_simp; try with_reducible rfl
  simp only [Act.put, List.setIfInBounds_toArray, List.set_cons_zero, List.set_cons_succ]
  refine wpAnyH_done (by kernel_rfl) ?_ _
  have B0_0 : World.cell? _ ⟨w.heap.size, 0, none⟩ = some (.int .i64 sneed) := B0.out.cell 0
  have B0_1 : World.cell? _ ⟨w.heap.size, 1, none⟩ = some (.int .i64 smany) := B0.out.cell 1
  have B0_2 : World.cell? _ ⟨w.heap.size, 2, none⟩ = some (.slice sag sng scg) := B0.out.cell 2
  have B0_3 : World.cell? _ ⟨w.heap.size, 3, none⟩ = some (.slice sac snc scc) := B0.out.cell 3
  have B0_4 : World.cell? _ ⟨w.heap.size, 4, none⟩ = some (.int .i64 smsg) := B0.out.cell 4
  have B0_5 : World.cell? _ ⟨w.heap.size, 5, none⟩ = some (.slice sa sn sc) := B0.out.cell 5
  have B0_l := B0.out.lt
  have Z_0 : World.cell? _ ⟨v3.heap.size, 0, none⟩ = some (.int .i64 (ssR sneed smany sng szg snc szc smsg sn sS)) := Z.out.cell 0
  have Z_1 : World.cell? _ ⟨v3.heap.size, 1, none⟩ = some (.int .i64 (ssZ sneed smany sng szg snc szc smsg sn sS)) := Z.out.cell 1
  have Z_l := Z.out.lt
  have Y0_0 : World.cell? _ ⟨v4.heap.size, 0, none⟩ = some (.int .i64 sneed) := Y0.out.cell 0
  have Y0_1 : World.cell? _ ⟨v4.heap.size, 1, none⟩ = some (.int .i64 smany) := Y0.out.cell 1
  have Y0_2 : World.cell? _ ⟨v4.heap.size, 2, none⟩ = some (.slice (some ⟨x0b1, 0, none⟩) sng sng) := Y0.out.cell 2
  have Y0_3 : World.cell? _ ⟨v4.heap.size, 3, none⟩ = some (.slice (some ⟨x0b2, 0, none⟩) snc snc) := Y0.out.cell 3
  have Y0_4 : World.cell? _ ⟨v4.heap.size, 4, none⟩ = some (.int .i64 smsg) := Y0.out.cell 4
  have Y0_5 : World.cell? _ ⟨v4.heap.size, 5, none⟩ = some (.slice (some ⟨x0b3, 0, none⟩) sn sn) := Y0.out.cell 5
  have Y0_l := Y0.out.lt
  have Q_0 : World.cell? _ ⟨v5.heap.size, 0, none⟩ = some (.int .i64 (ssR sneed smany sng szg snc szc smsg sn sS)) := Q.out.cell 0
  have Q_1 : World.cell? _ ⟨v5.heap.size, 1, none⟩ = some (.int .i64 (ssZ sneed smany sng szg snc szc smsg sn sS)) := Q.out.cell 1
  have Q_l := Q.out.lt
  go_wp2
  go_ret
  exact ⟨rfl, Draw.below_of G.out⟩
end Run
end Go.Proofs.YtgahfifojagghaaDoor
