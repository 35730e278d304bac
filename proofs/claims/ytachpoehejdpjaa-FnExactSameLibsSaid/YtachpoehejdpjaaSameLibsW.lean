/-
  The walk of FnExactSameLibs: whatever came in, it returns true.
-/
import Derived.Test.YtachpoehejdpjaaSm7b
import Derived.Test.YtachpoehejdpjaaLib7b
import Derived.Deep.RegionHeld3
namespace Go.Proofs.Ytachpoehejdpjaa
open Go.RowKit
set_option maxRecDepth 100000

set_option maxHeartbeats 16000000 in
theorem walkSameLibs (b1 : Int) (rs1 : List R3) (R1 : Option Addr) (rc1 : Nat) (T1 : Option Addr) (tn1 tc1 : Nat) (tx1 : Nat → Int) (L1 : Option Addr) (ln1 lc1 : Nat) (lo1 : Nat → Int) (lB1 : Nat → Option Addr) (ld1 : Nat → Nat) (lx1 : Nat → List Int) (C1 : Option Addr) (cn1 cc1 : Nat) (cB1 : Nat → Option Addr) (cd1 : Nat → Nat) (cx1 : Nat → List Int) (b2 : Int) (rs2 : List R3) (R2 : Option Addr) (rc2 : Nat) (T2 : Option Addr) (tn2 tc2 : Nat) (tx2 : Nat → Int) (L2 : Option Addr) (ln2 lc2 : Nat) (lo2 : Nat → Int) (lB2 : Nat → Option Addr) (ld2 : Nat → Nat) (lx2 : Nat → List Int) (C2 : Option Addr) (cn2 cc2 : Nat) (cB2 : Nat → Option Addr) (cd2 : Nat → Nat) (cx2 : Nat → List Int) (w : World) (s1 : rs1.length ≤ 9223372036854775807 ∧ tn1 ≤ 9223372036854775807 ∧ (ln1 ≤ 9223372036854775807 ∧ ∀ i, i < ln1 → (lx1 i).length ≤ 9223372036854775807) ∧ (cn1 ≤ 9223372036854775807 ∧ ∀ i, i < cn1 → (cx1 i).length ≤ 9223372036854775807)) (s2 : rs2.length ≤ 9223372036854775807 ∧ tn2 ≤ 9223372036854775807 ∧ (ln2 ≤ 9223372036854775807 ∧ ∀ i, i < ln2 → (lx2 i).length ≤ 9223372036854775807) ∧ (cn2 ≤ 9223372036854775807 ∧ ∀ i, i < cn2 → (cx2 i).length ≤ 9223372036854775807)) (h1 : LR w 0 w.heap.size R1 rs1.length (gi (fl rs1)) T1 tn1 tx1 L1 ln1 lo1 lB1 (fun i => (lx1 i).length) ld1 (fun i k => gi (lx1 i) k) C1 cn1 cB1 (fun i => (cx1 i).length) cd1 (fun i k => gi (cx1 i) k)) (h2 : LR w 0 w.heap.size R2 rs2.length (gi (fl rs2)) T2 tn2 tx2 L2 ln2 lo2 lB2 (fun i => (lx2 i).length) ld2 (fun i k => gi (lx2 i) k) C2 cn2 cB2 (fun i => (cx2 i).length) cd2 (fun i k => gi (cx2 i) k)) :
    Calls Try.prog 6 #[.agg #[.int .i64 b1, .slice R1 rs1.length rc1, .slice T1 tn1 tc1, .slice L1 ln1 lc1, .slice C1 cn1 cc1], .agg #[.int .i64 b2, .slice R2 rs2.length rc2, .slice T2 tn2 tc2, .slice L2 ln2 lc2, .slice C2 cn2 cc2]] w fun e w' => e = .returned (.bool true) ∧ Below w.heap.size w w' := by
  obtain ⟨w1, hw1⟩ : ∃ w1, w1 = (w.alloc (.cells #[.int .i64 b1, .slice R1 rs1.length rc1, .slice T1 tn1 tc1, .slice L1 ln1 lc1, .slice C1 cn1 cc1] 42)).alloc (.cells #[.int .i64 b2, .slice R2 rs2.length rc2, .slice T2 tn2 tc2, .slice L2 ln2 lc2, .slice C2 cn2 cc2] 42) := ⟨_, rfl⟩
  have k1 : w1.heap[w.heap.size]? = some (.cells #[.int .i64 b1, .slice R1 rs1.length rc1, .slice T1 tn1 tc1, .slice L1 ln1 lc1, .slice C1 cn1 cc1] 42 (0, 0)) := by rw [hw1]; exact heap_alloc2_old w _ _
  have k2 : w1.heap[w.heap.size + 1]? = some (.cells #[.int .i64 b2, .slice R2 rs2.length rc2, .slice T2 tn2 tc2, .slice L2 ln2 lc2, .slice C2 cn2 cc2] 42 (0, 0)) := by rw [hw1]; exact heap_alloc2_new w _ _
  have B1 : Hid (Below w.heap.size w w1) := by rw [hw1]; exact (below_new w _).alloc (by simp) _
  have Z1 : Hid (w1.heap.size = w.heap.size + 2) := by show _ = _; rw [hw1]; simp
  have KS : Hid (∀ W, Below w1.heap.size w1 W → W.cell? ⟨w.heap.size, 0, none⟩ = some (.int .i64 b1) ∧ W.cell? ⟨w.heap.size, 1, none⟩ = some (.slice R1 rs1.length rc1) ∧ W.cell? ⟨w.heap.size, 2, none⟩ = some (.slice T1 tn1 tc1) ∧ W.cell? ⟨w.heap.size, 3, none⟩ = some (.slice L1 ln1 lc1) ∧ W.cell? ⟨w.heap.size, 4, none⟩ = some (.slice C1 cn1 cc1) ∧ W.cell? ⟨w.heap.size + 1, 0, none⟩ = some (.int .i64 b2) ∧ W.cell? ⟨w.heap.size + 1, 1, none⟩ = some (.slice R2 rs2.length rc2) ∧ W.cell? ⟨w.heap.size + 1, 2, none⟩ = some (.slice T2 tn2 tc2) ∧ W.cell? ⟨w.heap.size + 1, 3, none⟩ = some (.slice L2 ln2 lc2) ∧ W.cell? ⟨w.heap.size + 1, 4, none⟩ = some (.slice C2 cn2 cc2)) := fun W hW => by
    have j := (hW.block w.heap.size (by have := Z1.out; omega)).trans k1
    have j2 := (hW.block (w.heap.size + 1) (by have := Z1.out; omega)).trans k2
    exact ⟨cell_of_row W _ 0 _ _ _ j, cell_of_row W _ 1 _ _ _ j, cell_of_row W _ 2 _ _ _ j, cell_of_row W _ 3 _ _ _ j, cell_of_row W _ 4 _ _ _ j, cell_of_row W _ 0 _ _ _ j2, cell_of_row W _ 1 _ _ _ j2, cell_of_row W _ 2 _ _ _ j2, cell_of_row W _ 3 _ _ _ j2, cell_of_row W _ 4 _ _ _ j2⟩
  have FIN : Hid (∀ W, Below w1.heap.size w1 W → Below w.heap.size w W) := fun W hW => B1.out.trans (hW.mono (by have := Z1.out; omega))
  have HA : Hid (∀ W, Below w1.heap.size w1 W → LR W 0 w.heap.size R1 rs1.length (gi (fl rs1)) T1 tn1 tx1 L1 ln1 lo1 lB1 (fun i => (lx1 i).length) ld1 (fun i k => gi (lx1 i) k) C1 cn1 cB1 (fun i => (cx1 i).length) cd1 (fun i k => gi (cx1 i) k)) := fun W hW => h1.below (FIN.out W hW) (Nat.le_refl _)
  have HB : Hid (∀ W, Below w1.heap.size w1 W → LR W 0 w.heap.size R2 rs2.length (gi (fl rs2)) T2 tn2 tx2 L2 ln2 lo2 lB2 (fun i => (lx2 i).length) ld2 (fun i k => gi (lx2 i) k) C2 cn2 cB2 (fun i => (cx2 i).length) cd2 (fun i k => gi (cx2 i) k)) := fun W hW => h2.below (FIN.out W hW) (Nat.le_refl _)
  have HW1 := Lib.hid hw1
  have S1 := Lib.hid s1; have S2 := Lib.hid s2
  clear h1 h2 s1 s2 k1 k2 hw1
  obtain ⟨r0, r1, r2, r3, r4, q0, q1, q2, q3, q4⟩ := KS.out w1 (Below.refl _ _)
  go_enter Try.func6, Try.ntmps6
  go_upto_region 1 with (fail)
  rw [← HW1.out]
  clear HW1
  go_wp2_with fail
  refine (szLib_any 0 w.heap.size b1 rc1 tc1 lc1 cc1 R1 rs1.length (gi (fl rs1)) T1 tn1 tx1 L1 ln1 lo1 lB1 (fun i => (lx1 i).length) ld1 (fun i k => gi (lx1 i) k) C1 cn1 cB1 (fun i => (cx1 i).length) cd1 (fun i k => gi (cx1 i) k) 1048576 w1 (by omega) S1.out.1 S1.out.2.1 S1.out.2.2.1.1 S1.out.2.2.1.2 S1.out.2.2.2.1 S1.out.2.2.2.2 (HA.out w1 (Below.refl _ _))).mono ?_
  rintro e w2 ⟨v, rfl, hv, hb⟩
  have R2' := Lib.hid hb
  clear hb r0 r1 r2 r3 r4 q0 q1 q2 q3 q4
  rcases hv with rfl | ⟨v0, v1, hv⟩
  · go_wp2
    go_ret
    exact ⟨rfl, FIN.out _ R2'.out⟩
  have D1 := Lib.hid hv
  have V := Lib.hid (show 0 ≤ v ∧ v ≤ 1048576 from ⟨v0, v1⟩)
  have g1 : ¬ v < 0 := by omega
  clear v0 v1 hv
  obtain ⟨r0, r1, r2, r3, r4, q0, q1, q2, q3, q4⟩ := KS.out w2 R2'.out
  go_wp2_with fail
  refine (szLib_any 0 w.heap.size b2 rc2 tc2 lc2 cc2 R2 rs2.length (gi (fl rs2)) T2 tn2 tx2 L2 ln2 lo2 lB2 (fun i => (lx2 i).length) ld2 (fun i k => gi (lx2 i) k) C2 cn2 cB2 (fun i => (cx2 i).length) cd2 (fun i k => gi (cx2 i) k) v w2 V.out S2.out.1 S2.out.2.1 S2.out.2.2.1.1 S2.out.2.2.1.2 S2.out.2.2.2.1 S2.out.2.2.2.2 (HB.out w2 R2'.out)).mono ?_
  rintro e w3 ⟨v', rfl, hv, hb⟩
  have R3' := Lib.hid (R2'.out.trans (hb.mono R2'.out.size))
  clear hb r0 r1 r2 r3 r4 q0 q1 q2 q3 q4
  rcases hv with rfl | ⟨v0, v1, hv⟩
  · go_wp2
    go_ret
    exact ⟨rfl, FIN.out _ R3'.out⟩
  have D2 := Lib.hid hv
  have g2 : ¬ v' < 0 := by omega
  clear v0 v1 hv S1 S2
  obtain ⟨z0, hz0⟩ : ∃ z0 : Bool, (z0 = true ↔ EqS b1 b2 rs1 rs2 tn1 tn2 tx1 tx2 ln1 ln2 lo1 lo2 lx1 lx2 cn1 cn2 cx1 cx2) := by
    by_cases h : EqS b1 b2 rs1 rs2 tn1 tn2 tx1 tx2 ln1 ln2 lo1 lo2 lx1 lx2 cn1 cn2 cx1 cx2
    · exact ⟨true, ⟨fun _ => h, fun _ => rfl⟩⟩
    · exact ⟨false, ⟨fun q => (by cases q), fun q => absurd q h⟩⟩
  have Z0 := Lib.hid hz0
  clear hz0
  have TA : Hid (∀ W, Below w1.heap.size w1 W → Calls Try.prog 17 #[.agg #[.int .i64 b1, .slice R1 rs1.length rc1, .slice T1 tn1 tc1, .slice L1 ln1 lc1, .slice C1 cn1 cc1]] W fun e w' => ∃ (pp1x1 pp2x1 pp3x1 pp4x1 : Nat) (mB1 mC1 : Nat → Option Addr), e = .returned (.agg #[.int .i64 b1, .slice (some ⟨pp1x1, 0, none⟩) rs1.length rs1.length, .slice (some ⟨pp2x1, 0, none⟩) tn1 tn1, .slice (some ⟨pp3x1, 0, none⟩) ln1 ln1, .slice (some ⟨pp4x1, 0, none⟩) cn1 cn1]) ∧ LR w' 0 w'.heap.size (some ⟨pp1x1, 0, none⟩) rs1.length (gi (fl rs1)) (some ⟨pp2x1, 0, none⟩) tn1 tx1 (some ⟨pp3x1, 0, none⟩) ln1 lo1 mB1 (fun i => (lx1 i).length) (fun i => (lx1 i).length) (fun i k => gi (lx1 i) k) (some ⟨pp4x1, 0, none⟩) cn1 mC1 (fun i => (cx1 i).length) (fun i => (cx1 i).length) (fun i k => gi (cx1 i) k) ∧ Below w1.heap.size w1 w' ∧ Below W.heap.size W w') := fun W hW => by
    refine (toLib_any 0 w.heap.size b1 rc1 tc1 lc1 cc1 R1 rs1.length (gi (fl rs1)) T1 tn1 tx1 L1 ln1 lo1 lB1 (fun i => (lx1 i).length) ld1 (fun i k => gi (lx1 i) k) C1 cn1 cB1 (fun i => (cx1 i).length) cd1 (fun i k => gi (cx1 i) k) W D1.out.1 D1.out.2.1 D1.out.2.2.1.1 D1.out.2.2.1.2 D1.out.2.2.2.1 D1.out.2.2.2.2 (HA.out W hW)).mono ?_
    rintro e w' ⟨pp1x1, pp2x1, pp3x1, pp4x1, mB1, mC1, he, hl, hb⟩
    exact ⟨pp1x1, pp2x1, pp3x1, pp4x1, mB1, mC1, he, hl.wide (Nat.zero_le _) (Nat.le_refl _), hW.trans (hb.mono hW.size), hb⟩
  have TB : Hid (∀ W, Below w1.heap.size w1 W → Calls Try.prog 17 #[.agg #[.int .i64 b2, .slice R2 rs2.length rc2, .slice T2 tn2 tc2, .slice L2 ln2 lc2, .slice C2 cn2 cc2]] W fun e w' => ∃ (pp1x2 pp2x2 pp3x2 pp4x2 : Nat) (mB2 mC2 : Nat → Option Addr), e = .returned (.agg #[.int .i64 b2, .slice (some ⟨pp1x2, 0, none⟩) rs2.length rs2.length, .slice (some ⟨pp2x2, 0, none⟩) tn2 tn2, .slice (some ⟨pp3x2, 0, none⟩) ln2 ln2, .slice (some ⟨pp4x2, 0, none⟩) cn2 cn2]) ∧ LR w' 0 w'.heap.size (some ⟨pp1x2, 0, none⟩) rs2.length (gi (fl rs2)) (some ⟨pp2x2, 0, none⟩) tn2 tx2 (some ⟨pp3x2, 0, none⟩) ln2 lo2 mB2 (fun i => (lx2 i).length) (fun i => (lx2 i).length) (fun i k => gi (lx2 i) k) (some ⟨pp4x2, 0, none⟩) cn2 mC2 (fun i => (cx2 i).length) (fun i => (cx2 i).length) (fun i k => gi (cx2 i) k) ∧ Below w1.heap.size w1 w' ∧ Below W.heap.size W w') := fun W hW => by
    refine (toLib_any 0 w.heap.size b2 rc2 tc2 lc2 cc2 R2 rs2.length (gi (fl rs2)) T2 tn2 tx2 L2 ln2 lo2 lB2 (fun i => (lx2 i).length) ld2 (fun i k => gi (lx2 i) k) C2 cn2 cB2 (fun i => (cx2 i).length) cd2 (fun i k => gi (cx2 i) k) W D2.out.1 D2.out.2.1 D2.out.2.2.1.1 D2.out.2.2.1.2 D2.out.2.2.2.1 D2.out.2.2.2.2 (HB.out W hW)).mono ?_
    rintro e w' ⟨pp1x2, pp2x2, pp3x2, pp4x2, mB2, mC2, he, hl, hb⟩
    exact ⟨pp1x2, pp2x2, pp3x2, pp4x2, mB2, mC2, he, hl.wide (Nat.zero_le _) (Nat.le_refl _), hW.trans (hb.mono hW.size), hb⟩
  have SSp : Hid (∀ W (pp1x1 pp2x1 pp3x1 pp4x1 : Nat) (mB1 mC1 : Nat → Option Addr) (pp1x2 pp2x2 pp3x2 pp4x2 : Nat) (mB2 mC2 : Nat → Option Addr), LR W 0 W.heap.size (some ⟨pp1x1, 0, none⟩) rs1.length (gi (fl rs1)) (some ⟨pp2x1, 0, none⟩) tn1 tx1 (some ⟨pp3x1, 0, none⟩) ln1 lo1 mB1 (fun i => (lx1 i).length) (fun i => (lx1 i).length) (fun i k => gi (lx1 i) k) (some ⟨pp4x1, 0, none⟩) cn1 mC1 (fun i => (cx1 i).length) (fun i => (cx1 i).length) (fun i k => gi (cx1 i) k) → LR W 0 W.heap.size (some ⟨pp1x2, 0, none⟩) rs2.length (gi (fl rs2)) (some ⟨pp2x2, 0, none⟩) tn2 tx2 (some ⟨pp3x2, 0, none⟩) ln2 lo2 mB2 (fun i => (lx2 i).length) (fun i => (lx2 i).length) (fun i k => gi (lx2 i) k) (some ⟨pp4x2, 0, none⟩) cn2 mC2 (fun i => (cx2 i).length) (fun i => (cx2 i).length) (fun i k => gi (cx2 i) k) → Below w1.heap.size w1 W → Calls Try.prog 24 #[.agg #[.int .i64 b1, .slice (some ⟨pp1x1, 0, none⟩) rs1.length rs1.length, .slice (some ⟨pp2x1, 0, none⟩) tn1 tn1, .slice (some ⟨pp3x1, 0, none⟩) ln1 ln1, .slice (some ⟨pp4x1, 0, none⟩) cn1 cn1], .agg #[.int .i64 b2, .slice (some ⟨pp1x2, 0, none⟩) rs2.length rs2.length, .slice (some ⟨pp2x2, 0, none⟩) tn2 tn2, .slice (some ⟨pp3x2, 0, none⟩) ln2 ln2, .slice (some ⟨pp4x2, 0, none⟩) cn2 cn2]] W fun e w' => e = .returned (.bool z0) ∧ Below w1.heap.size w1 w' ∧ Below W.heap.size W w') := by
    intro W pp1x1 pp2x1 pp3x1 pp4x1 mB1 mC1 pp1x2 pp2x2 pp3x2 pp4x2 mB2 mC2 ha hbb hW
    refine (specSameLibs_any 0 W.heap.size 0 W.heap.size b1 rs1 _ _ _ _ _ tx1 _ _ _ lo1 _ _ lx1 _ _ _ _ _ cx1 b2 rs2 _ _ _ _ _ tx2 _ _ _ lo2 _ _ lx2 _ _ _ _ _ cx2 W D1.out ha hbb).mono ?_
    rintro e w' ⟨z, rfl, hz, hb⟩
    have : z = z0 := Bool.eq_iff_iff.2 (hz.trans Z0.out.symm)
    subst this
    exact ⟨rfl, hW.trans (hb.mono hW.size), hb⟩
  have SIm : Hid (∀ W (pp1x1 pp2x1 pp3x1 pp4x1 : Nat) (mB1 mC1 : Nat → Option Addr) (pp1x2 pp2x2 pp3x2 pp4x2 : Nat) (mB2 mC2 : Nat → Option Addr), LR W 0 W.heap.size (some ⟨pp1x1, 0, none⟩) rs1.length (gi (fl rs1)) (some ⟨pp2x1, 0, none⟩) tn1 tx1 (some ⟨pp3x1, 0, none⟩) ln1 lo1 mB1 (fun i => (lx1 i).length) (fun i => (lx1 i).length) (fun i k => gi (lx1 i) k) (some ⟨pp4x1, 0, none⟩) cn1 mC1 (fun i => (cx1 i).length) (fun i => (cx1 i).length) (fun i k => gi (cx1 i) k) → LR W 0 W.heap.size (some ⟨pp1x2, 0, none⟩) rs2.length (gi (fl rs2)) (some ⟨pp2x2, 0, none⟩) tn2 tx2 (some ⟨pp3x2, 0, none⟩) ln2 lo2 mB2 (fun i => (lx2 i).length) (fun i => (lx2 i).length) (fun i k => gi (lx2 i) k) (some ⟨pp4x2, 0, none⟩) cn2 mC2 (fun i => (cx2 i).length) (fun i => (cx2 i).length) (fun i k => gi (cx2 i) k) → Below w1.heap.size w1 W → Calls Try.prog 25 #[.agg #[.int .i64 b1, .slice (some ⟨pp1x1, 0, none⟩) rs1.length rs1.length, .slice (some ⟨pp2x1, 0, none⟩) tn1 tn1, .slice (some ⟨pp3x1, 0, none⟩) ln1 ln1, .slice (some ⟨pp4x1, 0, none⟩) cn1 cn1], .agg #[.int .i64 b2, .slice (some ⟨pp1x2, 0, none⟩) rs2.length rs2.length, .slice (some ⟨pp2x2, 0, none⟩) tn2 tn2, .slice (some ⟨pp3x2, 0, none⟩) ln2 ln2, .slice (some ⟨pp4x2, 0, none⟩) cn2 cn2]] W fun e w' => e = .returned (.bool z0) ∧ Below w1.heap.size w1 w' ∧ Below W.heap.size W w') := by
    intro W pp1x1 pp2x1 pp3x1 pp4x1 mB1 mC1 pp1x2 pp2x2 pp3x2 pp4x2 mB2 mC2 ha hbb hW
    refine (implSameLibs_any 0 W.heap.size 0 W.heap.size b1 rs1 _ _ _ _ _ tx1 _ _ _ lo1 _ _ lx1 _ _ _ _ _ cx1 b2 rs2 _ _ _ _ _ tx2 _ _ _ lo2 _ _ lx2 _ _ _ _ _ cx2 W D1.out ha hbb).mono ?_
    rintro e w' ⟨z, rfl, hz, hb⟩
    have : z = z0 := Bool.eq_iff_iff.2 (hz.trans Z0.out.symm)
    subst this
    exact ⟨rfl, hW.trans (hb.mono hW.size), hb⟩
  go_upto_region 8 with (fail)
  go_cut [6] from 10 (fun s wx => s = .bool z0 ∧ Below w1.heap.size w1 wx)
  case first =>
    focus
      have KH : Hid (∀ W, Below w1.heap.size w1 W → ((W.cell? ⟨w.heap.size, 0, none⟩ = some (.int .i64 b1) ∧ W.cell? ⟨w.heap.size, 1, none⟩ = some (.slice R1 rs1.length rc1) ∧ W.cell? ⟨w.heap.size, 2, none⟩ = some (.slice T1 tn1 tc1) ∧ W.cell? ⟨w.heap.size, 3, none⟩ = some (.slice L1 ln1 lc1) ∧ W.cell? ⟨w.heap.size, 4, none⟩ = some (.slice C1 cn1 cc1) ∧ W.cell? ⟨w.heap.size + 1, 0, none⟩ = some (.int .i64 b2) ∧ W.cell? ⟨w.heap.size + 1, 1, none⟩ = some (.slice R2 rs2.length rc2) ∧ W.cell? ⟨w.heap.size + 1, 2, none⟩ = some (.slice T2 tn2 tc2) ∧ W.cell? ⟨w.heap.size + 1, 3, none⟩ = some (.slice L2 ln2 lc2) ∧ W.cell? ⟨w.heap.size + 1, 4, none⟩ = some (.slice C2 cn2 cc2)) ∧ Below w1.heap.size w1 W)) := fun W hW => ⟨KS.out W hW, hW⟩
      go_region_held3 (fun W => (W.cell? ⟨w.heap.size, 0, none⟩ = some (.int .i64 b1) ∧ W.cell? ⟨w.heap.size, 1, none⟩ = some (.slice R1 rs1.length rc1) ∧ W.cell? ⟨w.heap.size, 2, none⟩ = some (.slice T1 tn1 tc1) ∧ W.cell? ⟨w.heap.size, 3, none⟩ = some (.slice L1 ln1 lc1) ∧ W.cell? ⟨w.heap.size, 4, none⟩ = some (.slice C1 cn1 cc1) ∧ W.cell? ⟨w.heap.size + 1, 0, none⟩ = some (.int .i64 b2) ∧ W.cell? ⟨w.heap.size + 1, 1, none⟩ = some (.slice R2 rs2.length rc2) ∧ W.cell? ⟨w.heap.size + 1, 2, none⟩ = some (.slice T2 tn2 tc2) ∧ W.cell? ⟨w.heap.size + 1, 3, none⟩ = some (.slice L2 ln2 lc2) ∧ W.cell? ⟨w.heap.size + 1, 4, none⟩ = some (.slice C2 cn2 cc2)) ∧ Below w1.heap.size w1 W) (first | with_reducible exact KH.out _ (by assumption) | exact KH.out _ (Below.drew R3'.out)) (first | (go_at_call 17; with_reducible refine (TA.out _ (by go_split_ands; assumption)).mono ?_; rintro e w' ⟨pp1x1, pp2x1, pp3x1, pp4x1, mB1, mC1, rfl, hLA, hb9, hbb⟩) | (go_at_call 17; with_reducible refine (TB.out _ (by go_split_ands; assumption)).mono ?_; rintro e w' ⟨pp1x2, pp2x2, pp3x2, pp4x2, mB2, mC2, rfl, hLB, hb9, hbb⟩; have hLA2 := (hLA.below hbb (Nat.le_refl _)).wide (Nat.zero_le _) hbb.size) | (go_at_call 24; with_reducible refine (SSp.out _ _ _ _ _ _ _ _ _ _ _ _ _ hLA2 hLB (by go_split_ands; assumption)).mono ?_; rintro e w' ⟨rfl, hb9, hbb⟩))
      all_goals (go_wp2_with fail; go_meet; exact ⟨rfl, by assumption⟩)
  case rest =>
    obtain ⟨rfl, hbw⟩ := hcut
    obtain ⟨w4, hw4⟩ : ∃ w4, w4 = wc := ⟨_, rfl⟩
    subst hw4
    have R4' := Lib.hid hbw
    clear hbw
    obtain ⟨r0, r1, r2, r3, r4, q0, q1, q2, q3, q4⟩ := KS.out w4 R4'.out
    go_wp2_with fail
    refine (TA.out w4 R4'.out).mono ?_
    rintro e w5 ⟨pp1x1, pp2x1, pp3x1, pp4x1, mB1, mC1, rfl, hLA, hb9, hbb⟩
    have LA5 := Lib.hid hLA
    have R5' := Lib.hid hb9
    clear hLA hb9 hbb r0 r1 r2 r3 r4 q0 q1 q2 q3 q4
    obtain ⟨w6, hw6⟩ : ∃ w6, w6 = w5.alloc (.cells #[.int .i64 b1, .slice (some ⟨pp1x1, 0, none⟩) rs1.length rs1.length, .slice (some ⟨pp2x1, 0, none⟩) tn1 tn1, .slice (some ⟨pp3x1, 0, none⟩) ln1 ln1, .slice (some ⟨pp4x1, 0, none⟩) cn1 cn1] 54) := ⟨_, rfl⟩
    have K6 : Hid (w6.heap[w5.heap.size]? = some (.cells #[.int .i64 b1, .slice (some ⟨pp1x1, 0, none⟩) rs1.length rs1.length, .slice (some ⟨pp2x1, 0, none⟩) tn1 tn1, .slice (some ⟨pp3x1, 0, none⟩) ln1 ln1, .slice (some ⟨pp4x1, 0, none⟩) cn1 cn1] 54 (0, 0))) := by show _ = _; rw [hw6]; exact heap_alloc_new w5 _
    have BN6 : Hid (Below w5.heap.size w5 w6) := by rw [hw6]; exact below_new w5 _
    have ZN6 : Hid (w6.heap.size = w5.heap.size + 1) := by show _ = _; rw [hw6]; simp
    have R6' := Lib.hid (R5'.out.trans (BN6.out.mono R5'.out.size))
    have HW := Lib.hid hw6
    clear hw6
    go_upto_region 10 with (fail)
    rw [← HW.out]
    clear HW
    obtain ⟨r0, r1, r2, r3, r4, q0, q1, q2, q3, q4⟩ := KS.out w6 R6'.out
    go_wp2_with fail
    refine (TB.out w6 R6'.out).mono ?_
    rintro e w7 ⟨pp1x2, pp2x2, pp3x2, pp4x2, mB2, mC2, rfl, hLB, hb9, hbb⟩
    have LB7 := Lib.hid hLB
    have R7' := Lib.hid hb9
    have BB7 := Lib.hid hbb
    clear hLB hb9 hbb r0 r1 r2 r3 r4 q0 q1 q2 q3 q4
    obtain ⟨w8, hw8⟩ : ∃ w8, w8 = w7.alloc (.cells #[.int .i64 b2, .slice (some ⟨pp1x2, 0, none⟩) rs2.length rs2.length, .slice (some ⟨pp2x2, 0, none⟩) tn2 tn2, .slice (some ⟨pp3x2, 0, none⟩) ln2 ln2, .slice (some ⟨pp4x2, 0, none⟩) cn2 cn2] 54) := ⟨_, rfl⟩
    have K8 : Hid (w8.heap[w7.heap.size]? = some (.cells #[.int .i64 b2, .slice (some ⟨pp1x2, 0, none⟩) rs2.length rs2.length, .slice (some ⟨pp2x2, 0, none⟩) tn2 tn2, .slice (some ⟨pp3x2, 0, none⟩) ln2 ln2, .slice (some ⟨pp4x2, 0, none⟩) cn2 cn2] 54 (0, 0))) := by show _ = _; rw [hw8]; exact heap_alloc_new w7 _
    have BN8 : Hid (Below w7.heap.size w7 w8) := by rw [hw8]; exact below_new w7 _
    have ZN8 : Hid (w8.heap.size = w7.heap.size + 1) := by show _ = _; rw [hw8]; simp
    have R8' := Lib.hid (R7'.out.trans (BN8.out.mono R7'.out.size))
    have HW := Lib.hid hw8
    clear hw8
    go_upto_region 11 with (fail)
    rw [← HW.out]
    clear HW
    have BC8 : Hid (Below w6.heap.size w6 w8) := BB7.out.trans (BN8.out.mono BB7.out.size)
    have XS : Hid (∀ W, Below w8.heap.size w8 W → (W.cell? ⟨w5.heap.size, 0, none⟩ = some (.int .i64 b1) ∧ W.cell? ⟨w5.heap.size, 1, none⟩ = some (.slice (some ⟨pp1x1, 0, none⟩) rs1.length rs1.length) ∧ W.cell? ⟨w5.heap.size, 2, none⟩ = some (.slice (some ⟨pp2x1, 0, none⟩) tn1 tn1) ∧ W.cell? ⟨w5.heap.size, 3, none⟩ = some (.slice (some ⟨pp3x1, 0, none⟩) ln1 ln1) ∧ W.cell? ⟨w5.heap.size, 4, none⟩ = some (.slice (some ⟨pp4x1, 0, none⟩) cn1 cn1)) ∧ (W.cell? ⟨w7.heap.size, 0, none⟩ = some (.int .i64 b2) ∧ W.cell? ⟨w7.heap.size, 1, none⟩ = some (.slice (some ⟨pp1x2, 0, none⟩) rs2.length rs2.length) ∧ W.cell? ⟨w7.heap.size, 2, none⟩ = some (.slice (some ⟨pp2x2, 0, none⟩) tn2 tn2) ∧ W.cell? ⟨w7.heap.size, 3, none⟩ = some (.slice (some ⟨pp3x2, 0, none⟩) ln2 ln2) ∧ W.cell? ⟨w7.heap.size, 4, none⟩ = some (.slice (some ⟨pp4x2, 0, none⟩) cn2 cn2))) := fun W hW => by
      have j := (hW.block w5.heap.size (by have := ZN6.out; have := BC8.out.size; omega)).trans ((BC8.out.block w5.heap.size (by have := ZN6.out; omega)).trans K6.out)
      have j2 := (hW.block w7.heap.size (by have := ZN8.out; omega)).trans K8.out
      exact ⟨⟨cell_of_row W _ 0 _ _ _ j, cell_of_row W _ 1 _ _ _ j, cell_of_row W _ 2 _ _ _ j, cell_of_row W _ 3 _ _ _ j, cell_of_row W _ 4 _ _ _ j⟩, cell_of_row W _ 0 _ _ _ j2, cell_of_row W _ 1 _ _ _ j2, cell_of_row W _ 2 _ _ _ j2, cell_of_row W _ 3 _ _ _ j2, cell_of_row W _ 4 _ _ _ j2⟩
    have LX : Hid (∀ W, Below w8.heap.size w8 W → LR W 0 W.heap.size (some ⟨pp1x1, 0, none⟩) rs1.length (gi (fl rs1)) (some ⟨pp2x1, 0, none⟩) tn1 tx1 (some ⟨pp3x1, 0, none⟩) ln1 lo1 mB1 (fun i => (lx1 i).length) (fun i => (lx1 i).length) (fun i k => gi (lx1 i) k) (some ⟨pp4x1, 0, none⟩) cn1 mC1 (fun i => (cx1 i).length) (fun i => (cx1 i).length) (fun i k => gi (cx1 i) k) ∧ LR W 0 W.heap.size (some ⟨pp1x2, 0, none⟩) rs2.length (gi (fl rs2)) (some ⟨pp2x2, 0, none⟩) tn2 tx2 (some ⟨pp3x2, 0, none⟩) ln2 lo2 mB2 (fun i => (lx2 i).length) (fun i => (lx2 i).length) (fun i k => gi (lx2 i) k) (some ⟨pp4x2, 0, none⟩) cn2 mC2 (fun i => (cx2 i).length) (fun i => (cx2 i).length) (fun i k => gi (cx2 i) k)) := fun W hW => by
      have s8 := hW.size
      have s7 := BN8.out.size
      have s6 := BB7.out.size
      have s5 := BN6.out.size
      exact ⟨(((LA5.out.below BN6.out (Nat.le_refl _)).below BC8.out (by omega)).below hW (by omega)).wide (Nat.zero_le _) (by omega), ((LB7.out.below BN8.out (Nat.le_refl _)).below hW (by omega)).wide (Nat.zero_le _) (by omega)⟩
    have R1w : Hid (∀ W, Below w8.heap.size w8 W → Below w1.heap.size w1 W) := fun W hW => R8'.out.trans (hW.mono R8'.out.size)
    clear LA5 LB7 K6 K8 BN6 BN8 ZN6 ZN8 BB7 BC8
    obtain ⟨⟨x0, x1, x2, x3, x4⟩, y0, y1, y2, y3, y4⟩ := XS.out w8 (Below.refl _ _)
    go_wp2_with fail
    refine (SIm.out w8 _ _ _ _ _ _ _ _ _ _ _ _ (LX.out w8 (Below.refl _ _)).1 (LX.out w8 (Below.refl _ _)).2 R8'.out).mono ?_
    rintro e w9 ⟨rfl, _, hb⟩
    have R9 := Lib.hid hb
    clear hb x0 x1 x2 x3 x4 y0 y1 y2 y3 y4
    have zz : (z0 != z0) = false := by simp
    go_upto_region 14 with (fail)
    go_cut [39] from 10 (fun s wx => s = .bool false ∧ Below w8.heap.size w8 wx)
    case first =>
      focus
        have KH : Hid (∀ W, Below w8.heap.size w8 W → ((W.cell? ⟨w.heap.size, 0, none⟩ = some (.int .i64 b1) ∧ W.cell? ⟨w.heap.size, 1, none⟩ = some (.slice R1 rs1.length rc1) ∧ W.cell? ⟨w.heap.size, 2, none⟩ = some (.slice T1 tn1 tc1) ∧ W.cell? ⟨w.heap.size, 3, none⟩ = some (.slice L1 ln1 lc1) ∧ W.cell? ⟨w.heap.size, 4, none⟩ = some (.slice C1 cn1 cc1) ∧ W.cell? ⟨w.heap.size + 1, 0, none⟩ = some (.int .i64 b2) ∧ W.cell? ⟨w.heap.size + 1, 1, none⟩ = some (.slice R2 rs2.length rc2) ∧ W.cell? ⟨w.heap.size + 1, 2, none⟩ = some (.slice T2 tn2 tc2) ∧ W.cell? ⟨w.heap.size + 1, 3, none⟩ = some (.slice L2 ln2 lc2) ∧ W.cell? ⟨w.heap.size + 1, 4, none⟩ = some (.slice C2 cn2 cc2)) ∧ (W.cell? ⟨w5.heap.size, 0, none⟩ = some (.int .i64 b1) ∧ W.cell? ⟨w5.heap.size, 1, none⟩ = some (.slice (some ⟨pp1x1, 0, none⟩) rs1.length rs1.length) ∧ W.cell? ⟨w5.heap.size, 2, none⟩ = some (.slice (some ⟨pp2x1, 0, none⟩) tn1 tn1) ∧ W.cell? ⟨w5.heap.size, 3, none⟩ = some (.slice (some ⟨pp3x1, 0, none⟩) ln1 ln1) ∧ W.cell? ⟨w5.heap.size, 4, none⟩ = some (.slice (some ⟨pp4x1, 0, none⟩) cn1 cn1)) ∧ (W.cell? ⟨w7.heap.size, 0, none⟩ = some (.int .i64 b2) ∧ W.cell? ⟨w7.heap.size, 1, none⟩ = some (.slice (some ⟨pp1x2, 0, none⟩) rs2.length rs2.length) ∧ W.cell? ⟨w7.heap.size, 2, none⟩ = some (.slice (some ⟨pp2x2, 0, none⟩) tn2 tn2) ∧ W.cell? ⟨w7.heap.size, 3, none⟩ = some (.slice (some ⟨pp3x2, 0, none⟩) ln2 ln2) ∧ W.cell? ⟨w7.heap.size, 4, none⟩ = some (.slice (some ⟨pp4x2, 0, none⟩) cn2 cn2)) ∧ Below w8.heap.size w8 W)) := fun W hW => ⟨KS.out W (R1w.out W hW), (XS.out W hW).1, (XS.out W hW).2, hW⟩
        have TT : Hid (∀ W, Below w8.heap.size w8 W → Calls Try.prog 17 #[.agg #[.int .i64 b1, .slice R1 rs1.length rc1, .slice T1 tn1 tc1, .slice L1 ln1 lc1, .slice C1 cn1 cc1]] W fun e w' => ∃ (pp1x1' pp2x1' pp3x1' pp4x1' : Nat) (mB1' mC1' : Nat → Option Addr), e = .returned (.agg #[.int .i64 b1, .slice (some ⟨pp1x1', 0, none⟩) rs1.length rs1.length, .slice (some ⟨pp2x1', 0, none⟩) tn1 tn1, .slice (some ⟨pp3x1', 0, none⟩) ln1 ln1, .slice (some ⟨pp4x1', 0, none⟩) cn1 cn1]) ∧ LR w' 0 w'.heap.size (some ⟨pp1x1', 0, none⟩) rs1.length (gi (fl rs1)) (some ⟨pp2x1', 0, none⟩) tn1 tx1 (some ⟨pp3x1', 0, none⟩) ln1 lo1 mB1' (fun i => (lx1 i).length) (fun i => (lx1 i).length) (fun i k => gi (lx1 i) k) (some ⟨pp4x1', 0, none⟩) cn1 mC1' (fun i => (cx1 i).length) (fun i => (cx1 i).length) (fun i k => gi (cx1 i) k) ∧ Below w8.heap.size w8 w') := fun W hW => (TA.out W (R1w.out W hW)).mono fun e w' ⟨pp1x1', pp2x1', pp3x1', pp4x1', mB1', mC1', x1, x2, _, x4⟩ => ⟨pp1x1', pp2x1', pp3x1', pp4x1', mB1', mC1', x1, x2, hW.trans (x4.mono hW.size)⟩
        have EE : Hid (∀ W (pp1x1' pp2x1' pp3x1' pp4x1' : Nat) (mB1' mC1' : Nat → Option Addr), LR W 0 W.heap.size (some ⟨pp1x1', 0, none⟩) rs1.length (gi (fl rs1)) (some ⟨pp2x1', 0, none⟩) tn1 tx1 (some ⟨pp3x1', 0, none⟩) ln1 lo1 mB1' (fun i => (lx1 i).length) (fun i => (lx1 i).length) (fun i k => gi (lx1 i) k) (some ⟨pp4x1', 0, none⟩) cn1 mC1' (fun i => (cx1 i).length) (fun i => (cx1 i).length) (fun i k => gi (cx1 i) k) → Below w8.heap.size w8 W → Calls Try.prog 20 #[.agg #[.int .i64 b1, .slice (some ⟨pp1x1, 0, none⟩) rs1.length rs1.length, .slice (some ⟨pp2x1, 0, none⟩) tn1 tn1, .slice (some ⟨pp3x1, 0, none⟩) ln1 ln1, .slice (some ⟨pp4x1, 0, none⟩) cn1 cn1], .agg #[.int .i64 b1, .slice (some ⟨pp1x1', 0, none⟩) rs1.length rs1.length, .slice (some ⟨pp2x1', 0, none⟩) tn1 tn1, .slice (some ⟨pp3x1', 0, none⟩) ln1 ln1, .slice (some ⟨pp4x1', 0, none⟩) cn1 cn1]] W fun e w' => e = .returned (.bool true) ∧ Below w8.heap.size w8 w') := fun W pp1x1' pp2x1' pp3x1' pp4x1' mB1' mC1' hl hW => by
          refine (eqLib_same 0 W.heap.size 0 W.heap.size b1 _ _ _ _ _ _ _ _ _ _ _ _ _ _ _ _ _ _ _ _ _ _ _ _ _ _ _ _ _ _ _ _ _ _ _ W D1.out.1 D1.out.2.1 D1.out.2.2.1.1 D1.out.2.2.1.2 D1.out.2.2.2.1 D1.out.2.2.2.2 (LX.out W hW).1 hl).mono fun e w' ⟨x1, x2⟩ => ⟨x1, hW.trans (x2.mono hW.size)⟩
        have na1 := Lib.hid (R9.out)
        go_region_held3 (fun W => (W.cell? ⟨w.heap.size, 0, none⟩ = some (.int .i64 b1) ∧ W.cell? ⟨w.heap.size, 1, none⟩ = some (.slice R1 rs1.length rc1) ∧ W.cell? ⟨w.heap.size, 2, none⟩ = some (.slice T1 tn1 tc1) ∧ W.cell? ⟨w.heap.size, 3, none⟩ = some (.slice L1 ln1 lc1) ∧ W.cell? ⟨w.heap.size, 4, none⟩ = some (.slice C1 cn1 cc1) ∧ W.cell? ⟨w.heap.size + 1, 0, none⟩ = some (.int .i64 b2) ∧ W.cell? ⟨w.heap.size + 1, 1, none⟩ = some (.slice R2 rs2.length rc2) ∧ W.cell? ⟨w.heap.size + 1, 2, none⟩ = some (.slice T2 tn2 tc2) ∧ W.cell? ⟨w.heap.size + 1, 3, none⟩ = some (.slice L2 ln2 lc2) ∧ W.cell? ⟨w.heap.size + 1, 4, none⟩ = some (.slice C2 cn2 cc2)) ∧ (W.cell? ⟨w5.heap.size, 0, none⟩ = some (.int .i64 b1) ∧ W.cell? ⟨w5.heap.size, 1, none⟩ = some (.slice (some ⟨pp1x1, 0, none⟩) rs1.length rs1.length) ∧ W.cell? ⟨w5.heap.size, 2, none⟩ = some (.slice (some ⟨pp2x1, 0, none⟩) tn1 tn1) ∧ W.cell? ⟨w5.heap.size, 3, none⟩ = some (.slice (some ⟨pp3x1, 0, none⟩) ln1 ln1) ∧ W.cell? ⟨w5.heap.size, 4, none⟩ = some (.slice (some ⟨pp4x1, 0, none⟩) cn1 cn1)) ∧ (W.cell? ⟨w7.heap.size, 0, none⟩ = some (.int .i64 b2) ∧ W.cell? ⟨w7.heap.size, 1, none⟩ = some (.slice (some ⟨pp1x2, 0, none⟩) rs2.length rs2.length) ∧ W.cell? ⟨w7.heap.size, 2, none⟩ = some (.slice (some ⟨pp2x2, 0, none⟩) tn2 tn2) ∧ W.cell? ⟨w7.heap.size, 3, none⟩ = some (.slice (some ⟨pp3x2, 0, none⟩) ln2 ln2) ∧ W.cell? ⟨w7.heap.size, 4, none⟩ = some (.slice (some ⟨pp4x2, 0, none⟩) cn2 cn2)) ∧ Below w8.heap.size w8 W) (first | with_reducible exact KH.out _ (by assumption) | exact KH.out _ (Below.drew na1.out)) (first | (go_at_call 17; with_reducible refine (TT.out _ (by go_split_ands; assumption)).mono ?_; rintro e w' ⟨pp1x1', pp2x1', pp3x1', pp4x1', mB1', mC1', rfl, hLQ, hb9⟩) | (go_at_call 20; with_reducible refine (EE.out _ _ _ _ _ _ _ hLQ (by go_split_ands; assumption)).mono ?_; rintro e w' ⟨rfl, hb9⟩))
        all_goals (go_wp2_with fail; go_meet; exact ⟨rfl, by assumption⟩)
    case rest =>
    obtain ⟨rfl, hbw⟩ := hcut
    go_upto_region 16 with (fail)
    go_cut [44] from 10 (fun s wx => s = .bool false ∧ Below w8.heap.size w8 wx)
    case first =>
      focus
        have KH : Hid (∀ W, Below w8.heap.size w8 W → ((W.cell? ⟨w.heap.size, 0, none⟩ = some (.int .i64 b1) ∧ W.cell? ⟨w.heap.size, 1, none⟩ = some (.slice R1 rs1.length rc1) ∧ W.cell? ⟨w.heap.size, 2, none⟩ = some (.slice T1 tn1 tc1) ∧ W.cell? ⟨w.heap.size, 3, none⟩ = some (.slice L1 ln1 lc1) ∧ W.cell? ⟨w.heap.size, 4, none⟩ = some (.slice C1 cn1 cc1) ∧ W.cell? ⟨w.heap.size + 1, 0, none⟩ = some (.int .i64 b2) ∧ W.cell? ⟨w.heap.size + 1, 1, none⟩ = some (.slice R2 rs2.length rc2) ∧ W.cell? ⟨w.heap.size + 1, 2, none⟩ = some (.slice T2 tn2 tc2) ∧ W.cell? ⟨w.heap.size + 1, 3, none⟩ = some (.slice L2 ln2 lc2) ∧ W.cell? ⟨w.heap.size + 1, 4, none⟩ = some (.slice C2 cn2 cc2)) ∧ (W.cell? ⟨w5.heap.size, 0, none⟩ = some (.int .i64 b1) ∧ W.cell? ⟨w5.heap.size, 1, none⟩ = some (.slice (some ⟨pp1x1, 0, none⟩) rs1.length rs1.length) ∧ W.cell? ⟨w5.heap.size, 2, none⟩ = some (.slice (some ⟨pp2x1, 0, none⟩) tn1 tn1) ∧ W.cell? ⟨w5.heap.size, 3, none⟩ = some (.slice (some ⟨pp3x1, 0, none⟩) ln1 ln1) ∧ W.cell? ⟨w5.heap.size, 4, none⟩ = some (.slice (some ⟨pp4x1, 0, none⟩) cn1 cn1)) ∧ (W.cell? ⟨w7.heap.size, 0, none⟩ = some (.int .i64 b2) ∧ W.cell? ⟨w7.heap.size, 1, none⟩ = some (.slice (some ⟨pp1x2, 0, none⟩) rs2.length rs2.length) ∧ W.cell? ⟨w7.heap.size, 2, none⟩ = some (.slice (some ⟨pp2x2, 0, none⟩) tn2 tn2) ∧ W.cell? ⟨w7.heap.size, 3, none⟩ = some (.slice (some ⟨pp3x2, 0, none⟩) ln2 ln2) ∧ W.cell? ⟨w7.heap.size, 4, none⟩ = some (.slice (some ⟨pp4x2, 0, none⟩) cn2 cn2)) ∧ Below w8.heap.size w8 W)) := fun W hW => ⟨KS.out W (R1w.out W hW), (XS.out W hW).1, (XS.out W hW).2, hW⟩
        have TT : Hid (∀ W, Below w8.heap.size w8 W → Calls Try.prog 17 #[.agg #[.int .i64 b2, .slice R2 rs2.length rc2, .slice T2 tn2 tc2, .slice L2 ln2 lc2, .slice C2 cn2 cc2]] W fun e w' => ∃ (pp1x2' pp2x2' pp3x2' pp4x2' : Nat) (mB2' mC2' : Nat → Option Addr), e = .returned (.agg #[.int .i64 b2, .slice (some ⟨pp1x2', 0, none⟩) rs2.length rs2.length, .slice (some ⟨pp2x2', 0, none⟩) tn2 tn2, .slice (some ⟨pp3x2', 0, none⟩) ln2 ln2, .slice (some ⟨pp4x2', 0, none⟩) cn2 cn2]) ∧ LR w' 0 w'.heap.size (some ⟨pp1x2', 0, none⟩) rs2.length (gi (fl rs2)) (some ⟨pp2x2', 0, none⟩) tn2 tx2 (some ⟨pp3x2', 0, none⟩) ln2 lo2 mB2' (fun i => (lx2 i).length) (fun i => (lx2 i).length) (fun i k => gi (lx2 i) k) (some ⟨pp4x2', 0, none⟩) cn2 mC2' (fun i => (cx2 i).length) (fun i => (cx2 i).length) (fun i k => gi (cx2 i) k) ∧ Below w8.heap.size w8 w') := fun W hW => (TB.out W (R1w.out W hW)).mono fun e w' ⟨pp1x2', pp2x2', pp3x2', pp4x2', mB2', mC2', x1, x2, _, x4⟩ => ⟨pp1x2', pp2x2', pp3x2', pp4x2', mB2', mC2', x1, x2, hW.trans (x4.mono hW.size)⟩
        have EE : Hid (∀ W (pp1x2' pp2x2' pp3x2' pp4x2' : Nat) (mB2' mC2' : Nat → Option Addr), LR W 0 W.heap.size (some ⟨pp1x2', 0, none⟩) rs2.length (gi (fl rs2)) (some ⟨pp2x2', 0, none⟩) tn2 tx2 (some ⟨pp3x2', 0, none⟩) ln2 lo2 mB2' (fun i => (lx2 i).length) (fun i => (lx2 i).length) (fun i k => gi (lx2 i) k) (some ⟨pp4x2', 0, none⟩) cn2 mC2' (fun i => (cx2 i).length) (fun i => (cx2 i).length) (fun i k => gi (cx2 i) k) → Below w8.heap.size w8 W → Calls Try.prog 20 #[.agg #[.int .i64 b2, .slice (some ⟨pp1x2, 0, none⟩) rs2.length rs2.length, .slice (some ⟨pp2x2, 0, none⟩) tn2 tn2, .slice (some ⟨pp3x2, 0, none⟩) ln2 ln2, .slice (some ⟨pp4x2, 0, none⟩) cn2 cn2], .agg #[.int .i64 b2, .slice (some ⟨pp1x2', 0, none⟩) rs2.length rs2.length, .slice (some ⟨pp2x2', 0, none⟩) tn2 tn2, .slice (some ⟨pp3x2', 0, none⟩) ln2 ln2, .slice (some ⟨pp4x2', 0, none⟩) cn2 cn2]] W fun e w' => e = .returned (.bool true) ∧ Below w8.heap.size w8 w') := fun W pp1x2' pp2x2' pp3x2' pp4x2' mB2' mC2' hl hW => by
          refine (eqLib_same 0 W.heap.size 0 W.heap.size b2 _ _ _ _ _ _ _ _ _ _ _ _ _ _ _ _ _ _ _ _ _ _ _ _ _ _ _ _ _ _ _ _ _ _ _ W D2.out.1 D2.out.2.1 D2.out.2.2.1.1 D2.out.2.2.1.2 D2.out.2.2.2.1 D2.out.2.2.2.2 (LX.out W hW).2 hl).mono fun e w' ⟨x1, x2⟩ => ⟨x1, hW.trans (x2.mono hW.size)⟩
        have na1 := Lib.hid (hbw)
        go_region_held3 (fun W => (W.cell? ⟨w.heap.size, 0, none⟩ = some (.int .i64 b1) ∧ W.cell? ⟨w.heap.size, 1, none⟩ = some (.slice R1 rs1.length rc1) ∧ W.cell? ⟨w.heap.size, 2, none⟩ = some (.slice T1 tn1 tc1) ∧ W.cell? ⟨w.heap.size, 3, none⟩ = some (.slice L1 ln1 lc1) ∧ W.cell? ⟨w.heap.size, 4, none⟩ = some (.slice C1 cn1 cc1) ∧ W.cell? ⟨w.heap.size + 1, 0, none⟩ = some (.int .i64 b2) ∧ W.cell? ⟨w.heap.size + 1, 1, none⟩ = some (.slice R2 rs2.length rc2) ∧ W.cell? ⟨w.heap.size + 1, 2, none⟩ = some (.slice T2 tn2 tc2) ∧ W.cell? ⟨w.heap.size + 1, 3, none⟩ = some (.slice L2 ln2 lc2) ∧ W.cell? ⟨w.heap.size + 1, 4, none⟩ = some (.slice C2 cn2 cc2)) ∧ (W.cell? ⟨w5.heap.size, 0, none⟩ = some (.int .i64 b1) ∧ W.cell? ⟨w5.heap.size, 1, none⟩ = some (.slice (some ⟨pp1x1, 0, none⟩) rs1.length rs1.length) ∧ W.cell? ⟨w5.heap.size, 2, none⟩ = some (.slice (some ⟨pp2x1, 0, none⟩) tn1 tn1) ∧ W.cell? ⟨w5.heap.size, 3, none⟩ = some (.slice (some ⟨pp3x1, 0, none⟩) ln1 ln1) ∧ W.cell? ⟨w5.heap.size, 4, none⟩ = some (.slice (some ⟨pp4x1, 0, none⟩) cn1 cn1)) ∧ (W.cell? ⟨w7.heap.size, 0, none⟩ = some (.int .i64 b2) ∧ W.cell? ⟨w7.heap.size, 1, none⟩ = some (.slice (some ⟨pp1x2, 0, none⟩) rs2.length rs2.length) ∧ W.cell? ⟨w7.heap.size, 2, none⟩ = some (.slice (some ⟨pp2x2, 0, none⟩) tn2 tn2) ∧ W.cell? ⟨w7.heap.size, 3, none⟩ = some (.slice (some ⟨pp3x2, 0, none⟩) ln2 ln2) ∧ W.cell? ⟨w7.heap.size, 4, none⟩ = some (.slice (some ⟨pp4x2, 0, none⟩) cn2 cn2)) ∧ Below w8.heap.size w8 W) (first | with_reducible exact KH.out _ (by assumption) | exact KH.out _ (Below.drew na1.out)) (first | (go_at_call 17; with_reducible refine (TT.out _ (by go_split_ands; assumption)).mono ?_; rintro e w' ⟨pp1x2', pp2x2', pp3x2', pp4x2', mB2', mC2', rfl, hLQ, hb9⟩) | (go_at_call 20; with_reducible refine (EE.out _ _ _ _ _ _ _ hLQ (by go_split_ands; assumption)).mono ?_; rintro e w' ⟨rfl, hb9⟩))
        all_goals (go_wp2_with fail; go_meet; exact ⟨rfl, by assumption⟩)
    case rest =>
    obtain ⟨rfl, hbw⟩ := hcut
    go_wp2
    go_ret
    exact ⟨rfl, FIN.out _ (R1w.out _ hbw)⟩

end Go.Proofs.Ytachpoehejdpjaa
