/-
  SameLibs: true where both libraries say the same: the model's, the program's. No conditions beyond that their lists can be read.
-/
import Derived.Test.YtachpoehejdpjaaSm7
namespace Go.Proofs.Ytachpoehejdpjaa
open Go.RowKit
set_option maxRecDepth 100000

/-- two libraries say the same -/
def EqS (b1 b2 : Int) (rs1 rs2 : List R3) (tn1 tn2 : Nat) (tx1 tx2 : Nat → Int) (ln1 ln2 : Nat) (lo1 lo2 : Nat → Int) (lx1 lx2 : Nat → List Int) (cn1 cn2 : Nat) (cx1 cx2 : Nat → List Int) : Prop :=
  (b1 = b2 ∧ rs1 = rs2) ∧ EqT tn1 tn2 tx1 tx2 ∧ EqL ln1 ln2 lo1 lo2 lx1 lx2 ∧ EqC cn1 cn2 cx1 cx2
theorem LR.rs {W : World} {lo hi : Nat} {rs : List R3} {R T : Option Addr} {tn : Nat} {tx : Nat → Int} {L : Option Addr} {ln : Nat} {lo7 : Nat → Int} {lB : Nat → Option Addr} {lm ld : Nat → Nat} {lx : Nat → Nat → Int} {C : Option Addr} {cn : Nat} {cB : Nat → Option Addr} {cm cd : Nat → Nat} {cx : Nat → Nat → Int}
    (h : LR W lo hi R rs.length (gi (fl rs)) T tn tx L ln lo7 lB lm ld lx C cn cB cm cd cx) : RS W lo hi R rs := h.r

set_option maxHeartbeats 4000000 in
theorem implSameLibs_any (la1 ha1 la2 ha2 : Nat) (b1 : Int) (rs1 : List R3) (R1 : Option Addr) (rc1 : Nat) (T1 : Option Addr) (tn1 tc1 : Nat) (tx1 : Nat → Int) (L1 : Option Addr) (ln1 lc1 : Nat) (lo1 : Nat → Int) (lB1 : Nat → Option Addr) (ld1 : Nat → Nat) (lx1 : Nat → List Int) (C1 : Option Addr) (cn1 cc1 : Nat) (cB1 : Nat → Option Addr) (cd1 : Nat → Nat) (cx1 : Nat → List Int) (b2 : Int) (rs2 : List R3) (R2 : Option Addr) (rc2 : Nat) (T2 : Option Addr) (tn2 tc2 : Nat) (tx2 : Nat → Int) (L2 : Option Addr) (ln2 lc2 : Nat) (lo2 : Nat → Int) (lB2 : Nat → Option Addr) (ld2 : Nat → Nat) (lx2 : Nat → List Int) (C2 : Option Addr) (cn2 cc2 : Nat) (cB2 : Nat → Option Addr) (cd2 : Nat → Nat) (cx2 : Nat → List Int) (w : World) (h0 : rs1.length ≤ 1048576 ∧ tn1 ≤ 1048576 ∧ (ln1 ≤ 1048576 ∧ ∀ i, i < ln1 → (lx1 i).length ≤ 1048576) ∧ (cn1 ≤ 1048576 ∧ ∀ i, i < cn1 → (cx1 i).length ≤ 1048576)) (h1 : LR w la1 ha1 R1 rs1.length (gi (fl rs1)) T1 tn1 tx1 L1 ln1 lo1 lB1 (fun i => (lx1 i).length) ld1 (fun i k => gi (lx1 i) k) C1 cn1 cB1 (fun i => (cx1 i).length) cd1 (fun i k => gi (cx1 i) k)) (h2 : LR w la2 ha2 R2 rs2.length (gi (fl rs2)) T2 tn2 tx2 L2 ln2 lo2 lB2 (fun i => (lx2 i).length) ld2 (fun i k => gi (lx2 i) k) C2 cn2 cB2 (fun i => (cx2 i).length) cd2 (fun i k => gi (cx2 i) k)) :
    Calls Try.prog 25 #[.agg #[.int .i64 b1, .slice R1 rs1.length rc1, .slice T1 tn1 tc1, .slice L1 ln1 lc1, .slice C1 cn1 cc1], .agg #[.int .i64 b2, .slice R2 rs2.length rc2, .slice T2 tn2 tc2, .slice L2 ln2 lc2, .slice C2 cn2 cc2]] w (SB (EqS b1 b2 rs1 rs2 tn1 tn2 tx1 tx2 ln1 ln2 lo1 lo2 lx1 lx2 cn1 cn2 cx1 cx2) w) := by
  obtain ⟨w1, hw1⟩ : ∃ w1, w1 = (w.alloc (.cells #[.int .i64 b1, .slice R1 rs1.length rc1, .slice T1 tn1 tc1, .slice L1 ln1 lc1, .slice C1 cn1 cc1] 54)).alloc (.cells #[.int .i64 b2, .slice R2 rs2.length rc2, .slice T2 tn2 tc2, .slice L2 ln2 lc2, .slice C2 cn2 cc2] 54) := ⟨_, rfl⟩
  have k1 : w1.heap[w.heap.size]? = some (.cells #[.int .i64 b1, .slice R1 rs1.length rc1, .slice T1 tn1 tc1, .slice L1 ln1 lc1, .slice C1 cn1 cc1] 54 (0, 0)) := by rw [hw1]; exact heap_alloc2_old w _ _
  have k2 : w1.heap[w.heap.size + 1]? = some (.cells #[.int .i64 b2, .slice R2 rs2.length rc2, .slice T2 tn2 tc2, .slice L2 ln2 lc2, .slice C2 cn2 cc2] 54 (0, 0)) := by rw [hw1]; exact heap_alloc2_new w _ _
  have B1 : Hid (Below w.heap.size w w1) := by rw [hw1]; exact (below_new w _).alloc (by simp) _
  have Z1 : Hid (w1.heap.size = w.heap.size + 2) := by show _ = _; rw [hw1]; simp
  have KS : Hid (∀ W, Below w1.heap.size w1 W → W.cell? ⟨w.heap.size, 0, none⟩ = some (.int .i64 b1) ∧ W.cell? ⟨w.heap.size, 1, none⟩ = some (.slice R1 rs1.length rc1) ∧ W.cell? ⟨w.heap.size, 2, none⟩ = some (.slice T1 tn1 tc1) ∧ W.cell? ⟨w.heap.size, 3, none⟩ = some (.slice L1 ln1 lc1) ∧ W.cell? ⟨w.heap.size, 4, none⟩ = some (.slice C1 cn1 cc1) ∧ W.cell? ⟨w.heap.size + 1, 0, none⟩ = some (.int .i64 b2) ∧ W.cell? ⟨w.heap.size + 1, 1, none⟩ = some (.slice R2 rs2.length rc2) ∧ W.cell? ⟨w.heap.size + 1, 2, none⟩ = some (.slice T2 tn2 tc2) ∧ W.cell? ⟨w.heap.size + 1, 3, none⟩ = some (.slice L2 ln2 lc2) ∧ W.cell? ⟨w.heap.size + 1, 4, none⟩ = some (.slice C2 cn2 cc2)) := fun W hW => by
    have j := (hW.block w.heap.size (by have := Z1.out; omega)).trans k1
    have j2 := (hW.block (w.heap.size + 1) (by have := Z1.out; omega)).trans k2
    exact ⟨cell_of_row W _ 0 _ _ _ j, cell_of_row W _ 1 _ _ _ j, cell_of_row W _ 2 _ _ _ j, cell_of_row W _ 3 _ _ _ j, cell_of_row W _ 4 _ _ _ j, cell_of_row W _ 0 _ _ _ j2, cell_of_row W _ 1 _ _ _ j2, cell_of_row W _ 2 _ _ _ j2, cell_of_row W _ 3 _ _ _ j2, cell_of_row W _ 4 _ _ _ j2⟩
  have FIN : Hid (∀ W, Below w1.heap.size w1 W → Below w.heap.size w W) := fun W hW => B1.out.trans (hW.mono (by have := Z1.out; omega))
  have HA : Hid (∀ W, Below w1.heap.size w1 W → LR W la1 (min ha1 w.heap.size) R1 rs1.length (gi (fl rs1)) T1 tn1 tx1 L1 ln1 lo1 lB1 (fun i => (lx1 i).length) ld1 (fun i k => gi (lx1 i) k) C1 cn1 cB1 (fun i => (cx1 i).length) cd1 (fun i k => gi (cx1 i) k)) := fun W hW => h1.lt.below (FIN.out W hW) (Nat.min_le_right _ _)
  have HB : Hid (∀ W, Below w1.heap.size w1 W → LR W la2 (min ha2 w.heap.size) R2 rs2.length (gi (fl rs2)) T2 tn2 tx2 L2 ln2 lo2 lB2 (fun i => (lx2 i).length) ld2 (fun i k => gi (lx2 i) k) C2 cn2 cB2 (fun i => (cx2 i).length) cd2 (fun i k => gi (cx2 i) k)) := fun W hW => h2.lt.below (FIN.out W hW) (Nat.min_le_right _ _)
  have H0 := Lib.hid h0
  have HW1 := Lib.hid hw1
  clear h0 h1 h2 k1 k2 hw1
  obtain ⟨r0, r1, r2, r3, r4, q0, q1, q2, q3, q4⟩ := KS.out w1 (Below.refl _ _)
  go_enter Try.func25, Try.ntmps25
  go_upto_region 1 with (fail)
  rw [← HW1.out]
  clear HW1
  go_wp2_with fail
  refine (implSameScheds_any la1 _ la2 _ R1 rc1 R2 rc2 b1 b2 rs1 rs2 w1 (by have := H0.out.1; omega) (HA.out w1 (Below.refl _ _)).rs (HB.out w1 (Below.refl _ _)).rs).mono ?_
  rintro e w2 ⟨rfl, hb⟩
  have R2' := Lib.hid hb
  clear hb r0 r1 r2 r3 r4 q0 q1 q2 q3 q4
  cases hz : decide (b1 = b2 ∧ rs1 = rs2)
  · have NE : Hid (¬ (EqS b1 b2 rs1 rs2 tn1 tn2 tx1 tx2 ln1 ln2 lo1 lo2 lx1 lx2 cn1 cn2 cx1 cx2)) := fun h => (of_decide_eq_false hz) h.1
    clear hz
    go_wp2
    go_ret
    exact SB.no NE.out (FIN.out _ R2'.out)
  have Y1 := Lib.hid (of_decide_eq_true hz)
  clear hz
  obtain ⟨r0, r1, r2, r3, r4, q0, q1, q2, q3, q4⟩ := KS.out w2 R2'.out
  go_wp2_with fail
  refine (equalThread_any la1 _ la2 _ T1 T2 tn1 tn2 tc1 tc2 tx1 tx2 w2 H0.out.2.1 (HA.out w2 R2'.out).t (HB.out w2 R2'.out).t).mono ?_
  rintro e w3 ⟨z, rfl, hz, hb⟩
  have R3' := Lib.hid (R2'.out.trans (hb.mono R2'.out.size))
  clear hb r0 r1 r2 r3 r4 q0 q1 q2 q3 q4
  cases z
  · have NE : Hid (¬ (EqS b1 b2 rs1 rs2 tn1 tn2 tx1 tx2 ln1 ln2 lo1 lo2 lx1 lx2 cn1 cn2 cx1 cx2)) := fun h => (by have := hz.2 h.2.1; cases this)
    clear hz
    go_wp2
    go_ret
    exact SB.no NE.out (FIN.out _ R3'.out)
  have Y2 := Lib.hid (hz.1 rfl)
  clear hz
  obtain ⟨r0, r1, r2, r3, r4, q0, q1, q2, q3, q4⟩ := KS.out w3 R3'.out
  go_wp2_with fail
  refine (equalLocks_any la1 _ la2 _ L1 L2 ln1 ln2 lc1 lc2 lo1 lo2 lB1 lB2 ld1 ld2 lx1 lx2 w3 H0.out.2.2.1.1 H0.out.2.2.1.2 (HA.out w3 R3'.out).l (HB.out w3 R3'.out).l).mono ?_
  rintro e w4 ⟨z, rfl, hz, hb⟩
  have R4' := Lib.hid (R3'.out.trans (hb.mono R3'.out.size))
  clear hb r0 r1 r2 r3 r4 q0 q1 q2 q3 q4
  cases z
  · have NE : Hid (¬ (EqS b1 b2 rs1 rs2 tn1 tn2 tx1 tx2 ln1 ln2 lo1 lo2 lx1 lx2 cn1 cn2 cx1 cx2)) := fun h => (by have := hz.2 h.2.2.1; cases this)
    clear hz
    go_wp2
    go_ret
    exact SB.no NE.out (FIN.out _ R4'.out)
  have Y3 := Lib.hid (hz.1 rfl)
  clear hz
  obtain ⟨r0, r1, r2, r3, r4, q0, q1, q2, q3, q4⟩ := KS.out w4 R4'.out
  go_wp2_with fail
  refine (equalConds_any la1 _ la2 _ C1 C2 cn1 cn2 cc1 cc2 cB1 cB2 cd1 cd2 cx1 cx2 w4 H0.out.2.2.2.1 H0.out.2.2.2.2 (HA.out w4 R4'.out).c (HB.out w4 R4'.out).c).mono ?_
  rintro e w5 ⟨z, rfl, hz, hb⟩
  have R5' := Lib.hid (R4'.out.trans (hb.mono R4'.out.size))
  clear hb r0 r1 r2 r3 r4 q0 q1 q2 q3 q4
  cases z
  · have NE : Hid (¬ (EqS b1 b2 rs1 rs2 tn1 tn2 tx1 tx2 ln1 ln2 lo1 lo2 lx1 lx2 cn1 cn2 cx1 cx2)) := fun h => (by have := hz.2 h.2.2.2; cases this)
    clear hz
    go_wp2
    go_ret
    exact SB.no NE.out (FIN.out _ R5'.out)
  have Y4 := Lib.hid (hz.1 rfl)
  clear hz
  go_wp2
  go_ret
  exact SB.yes ⟨Y1.out, Y2.out, Y3.out, Y4.out⟩ (FIN.out _ R5'.out)

set_option maxHeartbeats 4000000 in
theorem specSameLibs_any (la1 ha1 la2 ha2 : Nat) (b1 : Int) (rs1 : List R3) (R1 : Option Addr) (rc1 : Nat) (T1 : Option Addr) (tn1 tc1 : Nat) (tx1 : Nat → Int) (L1 : Option Addr) (ln1 lc1 : Nat) (lo1 : Nat → Int) (lB1 : Nat → Option Addr) (ld1 : Nat → Nat) (lx1 : Nat → List Int) (C1 : Option Addr) (cn1 cc1 : Nat) (cB1 : Nat → Option Addr) (cd1 : Nat → Nat) (cx1 : Nat → List Int) (b2 : Int) (rs2 : List R3) (R2 : Option Addr) (rc2 : Nat) (T2 : Option Addr) (tn2 tc2 : Nat) (tx2 : Nat → Int) (L2 : Option Addr) (ln2 lc2 : Nat) (lo2 : Nat → Int) (lB2 : Nat → Option Addr) (ld2 : Nat → Nat) (lx2 : Nat → List Int) (C2 : Option Addr) (cn2 cc2 : Nat) (cB2 : Nat → Option Addr) (cd2 : Nat → Nat) (cx2 : Nat → List Int) (w : World) (h0 : rs1.length ≤ 1048576 ∧ tn1 ≤ 1048576 ∧ (ln1 ≤ 1048576 ∧ ∀ i, i < ln1 → (lx1 i).length ≤ 1048576) ∧ (cn1 ≤ 1048576 ∧ ∀ i, i < cn1 → (cx1 i).length ≤ 1048576)) (h1 : LR w la1 ha1 R1 rs1.length (gi (fl rs1)) T1 tn1 tx1 L1 ln1 lo1 lB1 (fun i => (lx1 i).length) ld1 (fun i k => gi (lx1 i) k) C1 cn1 cB1 (fun i => (cx1 i).length) cd1 (fun i k => gi (cx1 i) k)) (h2 : LR w la2 ha2 R2 rs2.length (gi (fl rs2)) T2 tn2 tx2 L2 ln2 lo2 lB2 (fun i => (lx2 i).length) ld2 (fun i k => gi (lx2 i) k) C2 cn2 cB2 (fun i => (cx2 i).length) cd2 (fun i k => gi (cx2 i) k)) :
    Calls Try.prog 24 #[.agg #[.int .i64 b1, .slice R1 rs1.length rc1, .slice T1 tn1 tc1, .slice L1 ln1 lc1, .slice C1 cn1 cc1], .agg #[.int .i64 b2, .slice R2 rs2.length rc2, .slice T2 tn2 tc2, .slice L2 ln2 lc2, .slice C2 cn2 cc2]] w (SB (EqS b1 b2 rs1 rs2 tn1 tn2 tx1 tx2 ln1 ln2 lo1 lo2 lx1 lx2 cn1 cn2 cx1 cx2) w) := by
  obtain ⟨w1, hw1⟩ : ∃ w1, w1 = (w.alloc (.cells #[.int .i64 b1, .slice R1 rs1.length rc1, .slice T1 tn1 tc1, .slice L1 ln1 lc1, .slice C1 cn1 cc1] 54)).alloc (.cells #[.int .i64 b2, .slice R2 rs2.length rc2, .slice T2 tn2 tc2, .slice L2 ln2 lc2, .slice C2 cn2 cc2] 54) := ⟨_, rfl⟩
  have k1 : w1.heap[w.heap.size]? = some (.cells #[.int .i64 b1, .slice R1 rs1.length rc1, .slice T1 tn1 tc1, .slice L1 ln1 lc1, .slice C1 cn1 cc1] 54 (0, 0)) := by rw [hw1]; exact heap_alloc2_old w _ _
  have k2 : w1.heap[w.heap.size + 1]? = some (.cells #[.int .i64 b2, .slice R2 rs2.length rc2, .slice T2 tn2 tc2, .slice L2 ln2 lc2, .slice C2 cn2 cc2] 54 (0, 0)) := by rw [hw1]; exact heap_alloc2_new w _ _
  have B1 : Hid (Below w.heap.size w w1) := by rw [hw1]; exact (below_new w _).alloc (by simp) _
  have Z1 : Hid (w1.heap.size = w.heap.size + 2) := by show _ = _; rw [hw1]; simp
  have KS : Hid (∀ W, Below w1.heap.size w1 W → W.cell? ⟨w.heap.size, 0, none⟩ = some (.int .i64 b1) ∧ W.cell? ⟨w.heap.size, 1, none⟩ = some (.slice R1 rs1.length rc1) ∧ W.cell? ⟨w.heap.size, 2, none⟩ = some (.slice T1 tn1 tc1) ∧ W.cell? ⟨w.heap.size, 3, none⟩ = some (.slice L1 ln1 lc1) ∧ W.cell? ⟨w.heap.size, 4, none⟩ = some (.slice C1 cn1 cc1) ∧ W.cell? ⟨w.heap.size + 1, 0, none⟩ = some (.int .i64 b2) ∧ W.cell? ⟨w.heap.size + 1, 1, none⟩ = some (.slice R2 rs2.length rc2) ∧ W.cell? ⟨w.heap.size + 1, 2, none⟩ = some (.slice T2 tn2 tc2) ∧ W.cell? ⟨w.heap.size + 1, 3, none⟩ = some (.slice L2 ln2 lc2) ∧ W.cell? ⟨w.heap.size + 1, 4, none⟩ = some (.slice C2 cn2 cc2)) := fun W hW => by
    have j := (hW.block w.heap.size (by have := Z1.out; omega)).trans k1
    have j2 := (hW.block (w.heap.size + 1) (by have := Z1.out; omega)).trans k2
    exact ⟨cell_of_row W _ 0 _ _ _ j, cell_of_row W _ 1 _ _ _ j, cell_of_row W _ 2 _ _ _ j, cell_of_row W _ 3 _ _ _ j, cell_of_row W _ 4 _ _ _ j, cell_of_row W _ 0 _ _ _ j2, cell_of_row W _ 1 _ _ _ j2, cell_of_row W _ 2 _ _ _ j2, cell_of_row W _ 3 _ _ _ j2, cell_of_row W _ 4 _ _ _ j2⟩
  have FIN : Hid (∀ W, Below w1.heap.size w1 W → Below w.heap.size w W) := fun W hW => B1.out.trans (hW.mono (by have := Z1.out; omega))
  have HA : Hid (∀ W, Below w1.heap.size w1 W → LR W la1 (min ha1 w.heap.size) R1 rs1.length (gi (fl rs1)) T1 tn1 tx1 L1 ln1 lo1 lB1 (fun i => (lx1 i).length) ld1 (fun i k => gi (lx1 i) k) C1 cn1 cB1 (fun i => (cx1 i).length) cd1 (fun i k => gi (cx1 i) k)) := fun W hW => h1.lt.below (FIN.out W hW) (Nat.min_le_right _ _)
  have HB : Hid (∀ W, Below w1.heap.size w1 W → LR W la2 (min ha2 w.heap.size) R2 rs2.length (gi (fl rs2)) T2 tn2 tx2 L2 ln2 lo2 lB2 (fun i => (lx2 i).length) ld2 (fun i k => gi (lx2 i) k) C2 cn2 cB2 (fun i => (cx2 i).length) cd2 (fun i k => gi (cx2 i) k)) := fun W hW => h2.lt.below (FIN.out W hW) (Nat.min_le_right _ _)
  have H0 := Lib.hid h0
  have HW1 := Lib.hid hw1
  clear h0 h1 h2 k1 k2 hw1
  obtain ⟨r0, r1, r2, r3, r4, q0, q1, q2, q3, q4⟩ := KS.out w1 (Below.refl _ _)
  go_enter Try.func24, Try.ntmps24
  go_upto_region 1 with (fail)
  rw [← HW1.out]
  clear HW1
  go_wp2_with fail
  refine (specSameScheds_any la1 _ la2 _ R1 rc1 R2 rc2 b1 b2 rs1 rs2 w1 (by have := H0.out.1; omega) (HA.out w1 (Below.refl _ _)).rs (HB.out w1 (Below.refl _ _)).rs).mono ?_
  rintro e w2 ⟨rfl, hb⟩
  have R2' := Lib.hid hb
  clear hb r0 r1 r2 r3 r4 q0 q1 q2 q3 q4
  cases hz : decide (b1 = b2 ∧ rs1 = rs2)
  · have NE : Hid (¬ (EqS b1 b2 rs1 rs2 tn1 tn2 tx1 tx2 ln1 ln2 lo1 lo2 lx1 lx2 cn1 cn2 cx1 cx2)) := fun h => (of_decide_eq_false hz) h.1
    clear hz
    go_wp2
    go_ret
    exact SB.no NE.out (FIN.out _ R2'.out)
  have Y1 := Lib.hid (of_decide_eq_true hz)
  clear hz
  obtain ⟨r0, r1, r2, r3, r4, q0, q1, q2, q3, q4⟩ := KS.out w2 R2'.out
  by_cases hl : tn1 = tn2
  rotate_left
  · have NE : Hid (¬ (EqS b1 b2 rs1 rs2 tn1 tn2 tx1 tx2 ln1 ln2 lo1 lo2 lx1 lx2 cn1 cn2 cx1 cx2)) := fun h => hl h.2.1.1
    have h2 : ((tn1 : Int) != tn2) = true := by simp; omega
    clear hl
    go_wp2
    go_ret
    exact SB.no NE.out (FIN.out _ R2'.out)
  subst hl
  by_cases hl : ln1 = ln2
  rotate_left
  · have NE : Hid (¬ (EqS b1 b2 rs1 rs2 tn1 tn1 tx1 tx2 ln1 ln2 lo1 lo2 lx1 lx2 cn1 cn2 cx1 cx2)) := fun h => hl h.2.2.1.1
    have h2 : ((ln1 : Int) != ln2) = true := by simp; omega
    clear hl
    go_wp2
    go_ret
    exact SB.no NE.out (FIN.out _ R2'.out)
  subst hl
  by_cases hl : cn1 = cn2
  rotate_left
  · have NE : Hid (¬ (EqS b1 b2 rs1 rs2 tn1 tn1 tx1 tx2 ln1 ln1 lo1 lo2 lx1 lx2 cn1 cn2 cx1 cx2)) := fun h => hl h.2.2.2.1
    have h2 : ((cn1 : Int) != cn2) = true := by simp; omega
    clear hl
    go_wp2
    go_ret
    exact SB.no NE.out (FIN.out _ R2'.out)
  subst hl
  go_wp2_with fail
  go_loopw [5] (fun i wr => ∃ k : Nat, k ≤ tn1 ∧ i = .int .i64 k ∧ Below w1.heap.size w1 wr ∧ ∀ j, j < k → th5 tx1 j = th5 tx2 j) (fun i _ => tn1 - (intOf i).toNat)
  case atStart => exact ⟨0, Nat.zero_le _, rfl, R2'.out, fun j hj => absurd hj (by omega)⟩
  case round =>
    obtain ⟨k, hk, rfl, hb, hs⟩ := hrel
    have HBw := Lib.hid hb; have HS := Lib.hid hs
    obtain ⟨r0, r1, r2, r3, r4, q0, q1, q2, q3, q4⟩ := KS.out wr hb
    by_cases hlt : k < tn1
    · have wk : IntKind.i64.wrap ((k : Int) + 1) = (k : Int) + 1 := IntWalk.i64_in _ (by have := H0.out.2; omega)
      have HK := Lib.hid hlt
      have HLA := HA.out wr hb
      have HLB := HB.out wr hb
      obtain ⟨b1', o1, rfl, p1, p2, hc1⟩ := HLA.t.at_ (show k * 5 < tn1 * 5 by omega)
      obtain ⟨b2', o2, rfl, p3, p4, hc2⟩ := HLB.t.at_ (show k * 5 < tn1 * 5 by omega)
      have d0 : wr.cell? ⟨b1', o1 + k * 5, none⟩ = some (.int .i64 (tx1 (k * 5))) := hc1 (k * 5) (by omega)
      have d1 : wr.cell? ⟨b1', o1 + k * 5 + 1, none⟩ = some (.int .i64 (tx1 (k * 5 + 1))) := hc1 (k * 5 + 1) (by omega)
      have d2 : wr.cell? ⟨b1', o1 + k * 5 + 2, none⟩ = some (.int .i64 (tx1 (k * 5 + 2))) := hc1 (k * 5 + 2) (by omega)
      have d3 : wr.cell? ⟨b1', o1 + k * 5 + 3, none⟩ = some (.int .i64 (tx1 (k * 5 + 3))) := hc1 (k * 5 + 3) (by omega)
      have d4 : wr.cell? ⟨b1', o1 + k * 5 + 4, none⟩ = some (.int .i64 (tx1 (k * 5 + 4))) := hc1 (k * 5 + 4) (by omega)
      have f0 : wr.cell? ⟨b2', o2 + k * 5, none⟩ = some (.int .i64 (tx2 (k * 5))) := hc2 (k * 5) (by omega)
      have f1 : wr.cell? ⟨b2', o2 + k * 5 + 1, none⟩ = some (.int .i64 (tx2 (k * 5 + 1))) := hc2 (k * 5 + 1) (by omega)
      have f2 : wr.cell? ⟨b2', o2 + k * 5 + 2, none⟩ = some (.int .i64 (tx2 (k * 5 + 2))) := hc2 (k * 5 + 2) (by omega)
      have f3 : wr.cell? ⟨b2', o2 + k * 5 + 3, none⟩ = some (.int .i64 (tx2 (k * 5 + 3))) := hc2 (k * 5 + 3) (by omega)
      have f4 : wr.cell? ⟨b2', o2 + k * 5 + 4, none⟩ = some (.int .i64 (tx2 (k * 5 + 4))) := hc2 (k * 5 + 4) (by omega)
      clear hb hs hc1 hc2 p1 p2 p3 p4 HLA HLB
      cases hz : (tx1 (k * 5) == tx2 (k * 5) && tx1 (k * 5 + 1) == tx2 (k * 5 + 1) && tx1 (k * 5 + 2) == tx2 (k * 5 + 2) && tx1 (k * 5 + 3) == tx2 (k * 5 + 3) && tx1 (k * 5 + 4) == tx2 (k * 5 + 4))
      · have nz := run_neq_thread (tx1 (k * 5)) (tx1 (k * 5 + 1)) (tx1 (k * 5 + 2)) (tx1 (k * 5 + 3)) (tx1 (k * 5 + 4)) (tx2 (k * 5)) (tx2 (k * 5 + 1)) (tx2 (k * 5 + 2)) (tx2 (k * 5 + 3)) (tx2 (k * 5 + 4)) true hz
        have NE : Hid (¬ (EqS b1 b2 rs1 rs2 tn1 tn1 tx1 tx2 ln1 ln1 lo1 lo2 lx1 lx2 cn1 cn1 cx1 cx2)) := fun h => by
          have := th5_eq.1 (h.2.1.2 k HK.out)
          rw [hz] at this
          cases this
        clear hz
        go_upto_region 6 with (fail)
        go_quiet (fail)
        go_wp2
        go_ret
        exact SB.no NE.out (FIN.out _ (below_drewN HBw.out _))
      · have nz := run_neq_thread (tx1 (k * 5)) (tx1 (k * 5 + 1)) (tx1 (k * 5 + 2)) (tx1 (k * 5 + 3)) (tx1 (k * 5 + 4)) (tx2 (k * 5)) (tx2 (k * 5 + 1)) (tx2 (k * 5 + 2)) (tx2 (k * 5 + 3)) (tx2 (k * 5 + 4)) false hz
        have GO : Hid (∀ j, j < k + 1 → th5 tx1 j = th5 tx2 j) := all_lt HS.out (th5_eq.2 hz)
        clear hz
        go_upto_region 6 with (fail)
        go_quiet (fail)
        go_wp2
        go_roundw
        case rel => exact ⟨k + 1, by omega, by rfl, below_drewN HBw.out _, GO.out⟩
        case measure => simp [intOf]; omega
    · obtain rfl : tn1 = k := by omega
      clear hb hs
      have Y2 := HS
      have RT := HBw
      clear HS HBw
      go_wp2_with fail
      go_loopw [6] (fun i wr => ∃ k : Nat, k ≤ ln1 ∧ i = .int .i64 k ∧ Below w1.heap.size w1 wr ∧ ∀ j, j < k → lo1 j = lo2 j ∧ lx1 j = lx2 j) (fun i _ => ln1 - (intOf i).toNat)
      case atStart => exact ⟨0, Nat.zero_le _, rfl, RT.out, fun j hj => absurd hj (by omega)⟩
      case round =>
        obtain ⟨k, hk, rfl, hb, hs⟩ := hrel
        have HBw := Lib.hid hb; have HS := Lib.hid hs
        obtain ⟨r0, r1, r2, r3, r4, q0, q1, q2, q3, q4⟩ := KS.out wr hb
        by_cases hlt : k < ln1
        · have wk : IntKind.i64.wrap ((k : Int) + 1) = (k : Int) + 1 := IntWalk.i64_in _ (by have := H0.out.2; omega)
          have HK := Lib.hid hlt
          have HLA := (HA.out wr hb).l
          have HLB := (HB.out wr hb).l
          obtain ⟨b1', o1, hA1, p1, p2, hc1⟩ := HLA.at_ hlt
          obtain ⟨b2', o2, hA2, p3, p4, hc2⟩ := HLB.at_ hlt
          have HA1 := Lib.hid hA1; have HA2 := Lib.hid hA2
          have d0 := (hc1 k hlt).1
          have d1 := (hc1 k hlt).2
          have f0 := (hc2 k hlt).1
          have f1 := (hc2 k hlt).2
          have SL : Hid (∀ W, Below w1.heap.size w1 W → Calls Try.prog 56 #[.agg #[.int .i64 (lo1 k), .slice (lB1 k) (lx1 k).length (ld1 k)], .agg #[.int .i64 (lo2 k), .slice (lB2 k) (lx2 k).length (ld2 k)]] W fun e w' => e = .returned (.bool (decide (lo1 k = lo2 k ∧ lx1 k = lx2 k))) ∧ Below W.heap.size W w') := fun W hW => specSameLocks_any la1 (min ha1 w.heap.size) la2 (min ha2 w.heap.size) (lB1 k) (lB2 k) (lx1 k).length (ld1 k) (lx2 k).length (ld2 k) (lo1 k) (lo2 k) (lx1 k) (lx2 k) W (by have := H0.out.2.2.1.2 k hlt; omega) rfl rfl ((HA.out W hW).l.qs k hlt) ((HB.out W hW).l.qs k hlt)
          obtain ⟨z, hz⟩ : ∃ z, decide (lo1 k = lo2 k ∧ lx1 k = lx2 k) = z := ⟨_, rfl⟩
          rw [hz] at SL
          have HZ := Lib.hid hz
          clear hz
          clear hb hs hc1 hc2 p1 p2 p3 p4 HLA HLB
          rw [hA1] at r3
          rw [hA2] at q3
          clear hA1 hA2
          go_wp2_with fail
          go_region_with (refine (SL.out _ (Below.drew HBw.out)).mono ?_; rintro e w2' ⟨rfl, hb2⟩; have RR := Lib.hid ((Below.drew HBw.out).trans (hb2.mono HBw.out.size)); clear hb2)
          all_goals
            cases z
            · have NE : Hid (¬ (EqS b1 b2 rs1 rs2 tn1 tn1 tx1 tx2 ln1 ln1 lo1 lo2 lx1 lx2 cn1 cn1 cx1 cx2)) := fun h => by
                have := decide_eq_true (h.2.2.1.2 k HK.out)
                rw [HZ.out] at this
                cases this
              go_wp2
              go_ret
              exact SB.no NE.out (FIN.out _ RR.out)
            · have GO : Hid (∀ j, j < k + 1 → lo1 j = lo2 j ∧ lx1 j = lx2 j) := all_lt HS.out (of_decide_eq_true HZ.out)
              go_wp2
              go_roundw
              case rel => exact ⟨k + 1, by omega, by rfl, RR.out, GO.out⟩
              case measure => simp [intOf]; omega
        · obtain rfl : ln1 = k := by omega
          clear hb hs
          have Y3 := HS
          have RU := HBw
          clear HS HBw
          go_wp2_with fail
          go_loopw [7] (fun i wr => ∃ k : Nat, k ≤ cn1 ∧ i = .int .i64 k ∧ Below w1.heap.size w1 wr ∧ ∀ j, j < k → cx1 j = cx2 j) (fun i _ => cn1 - (intOf i).toNat)
          case atStart => exact ⟨0, Nat.zero_le _, rfl, RU.out, fun j hj => absurd hj (by omega)⟩
          case round =>
            obtain ⟨k, hk, rfl, hb, hs⟩ := hrel
            have HBw := Lib.hid hb; have HS := Lib.hid hs
            obtain ⟨r0, r1, r2, r3, r4, q0, q1, q2, q3, q4⟩ := KS.out wr hb
            by_cases hlt : k < cn1
            · have wk : IntKind.i64.wrap ((k : Int) + 1) = (k : Int) + 1 := IntWalk.i64_in _ (by have := H0.out.2; omega)
              have HK := Lib.hid hlt
              have HLA := (HA.out wr hb).c
              have HLB := (HB.out wr hb).c
              obtain ⟨b1', o1, hA1, p1, p2, hc1⟩ := HLA.at_ hlt
              obtain ⟨b2', o2, hA2, p3, p4, hc2⟩ := HLB.at_ hlt
              have HA1 := Lib.hid hA1; have HA2 := Lib.hid hA2
              have d0 := hc1 k hlt
              have f0 := hc2 k hlt
              have SL : Hid (∀ W, Below w1.heap.size w1 W → Calls Try.prog 57 #[.slice (cB1 k) (cx1 k).length (cd1 k), .slice (cB2 k) (cx2 k).length (cd2 k)] W fun e w' => e = .returned (.bool (decide (cx1 k = cx2 k))) ∧ Below W.heap.size W w') := fun W hW => specSameInts_any la1 (min ha1 w.heap.size) la2 (min ha2 w.heap.size) (cB1 k) (cB2 k) (cx1 k) (cx2 k) (cx1 k).length (cx2 k).length (cd1 k) (cd2 k) W (by have := H0.out.2.2.2.2 k hlt; omega) rfl rfl ((HA.out W hW).c.qs k hlt) ((HB.out W hW).c.qs k hlt)
              obtain ⟨z, hz⟩ : ∃ z, decide (cx1 k = cx2 k) = z := ⟨_, rfl⟩
              rw [hz] at SL
              have HZ := Lib.hid hz
              clear hz
              clear hb hs hc1 hc2 p1 p2 p3 p4 HLA HLB
              rw [hA1] at r4
              rw [hA2] at q4
              clear hA1 hA2
              go_wp2_with fail
              go_region_with (refine (SL.out _ (Below.drew HBw.out)).mono ?_; rintro e w2' ⟨rfl, hb2⟩; have RR := Lib.hid ((Below.drew HBw.out).trans (hb2.mono HBw.out.size)); clear hb2)
              all_goals
                cases z
                · have NE : Hid (¬ (EqS b1 b2 rs1 rs2 tn1 tn1 tx1 tx2 ln1 ln1 lo1 lo2 lx1 lx2 cn1 cn1 cx1 cx2)) := fun h => by
                    have := decide_eq_true (h.2.2.2.2 k HK.out)
                    rw [HZ.out] at this
                    cases this
                  go_wp2
                  go_ret
                  exact SB.no NE.out (FIN.out _ RR.out)
                · have GO : Hid (∀ j, j < k + 1 → cx1 j = cx2 j) := all_lt HS.out (of_decide_eq_true HZ.out)
                  go_wp2
                  go_roundw
                  case rel => exact ⟨k + 1, by omega, by rfl, RR.out, GO.out⟩
                  case measure => simp [intOf]; omega
            · obtain rfl : cn1 = k := by omega
              clear hb hs
              go_wp2
              go_ret
              exact SB.yes ⟨Y1.out, ⟨rfl, Y2.out⟩, ⟨rfl, Y3.out⟩, rfl, HS.out⟩ (FIN.out _ HBw.out)

end Go.Proofs.Ytachpoehejdpjaa
