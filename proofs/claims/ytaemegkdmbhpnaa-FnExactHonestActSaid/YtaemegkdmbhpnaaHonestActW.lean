/-
  The walk of FnExactHonestAct: whatever came in, it returns true.
-/
import Derived.Test.YtaemegkdmbhpnaaWho8
import Derived.Test.YtaemegkdmbhpnaaKernelFaultW
import Derived.Test.YtaemegkdmbhpnaaWhoActsW
import Derived.Test.YtaemegkdmbhpnaaColl5
import Derived.Test.YtaemegkdmbhpnaaLib7b
import Derived.Deep.RegionHeld3
namespace Go.Proofs.Ytaemegkdmbhpnaa
open Go.RowKit
set_option maxRecDepth 100000

set_option maxHeartbeats 16000000 in
theorem walkHonestAct (A1 : Option Addr) (n1 c1 : Nat) (A2 : Option Addr) (n2 c2 : Nat) (A3 : Option Addr) (n3 c3 : Nat) (K : Ker) (b1 : Int) (rs1 : List R3) (R1 : Option Addr) (rc1 : Nat) (T1 : Option Addr) (tn1 tc1 : Nat) (tx1 : Nat → Int) (L1 : Option Addr) (ln1 lc1 : Nat) (lo1 : Nat → Int) (lB1 : Nat → Option Addr) (ld1 : Nat → Nat) (lx1 : Nat → List Int) (C1 : Option Addr) (cn1 cc1 : Nat) (cB1 : Nat → Option Addr) (cd1 : Nat → Nat) (cx1 : Nat → List Int) (w : World) (h : KRead w 0 w.heap.size A1 n1 A2 n2 A3 n3 K) (m1 : n1 ≤ 9223372036854775807) (m2 : n2 ≤ 9223372036854775807) (m3 : n3 ≤ 9223372036854775807) (s1 : rs1.length ≤ 9223372036854775807 ∧ tn1 ≤ 9223372036854775807 ∧ (ln1 ≤ 9223372036854775807 ∧ ∀ i, i < ln1 → (lx1 i).length ≤ 9223372036854775807) ∧ (cn1 ≤ 9223372036854775807 ∧ ∀ i, i < cn1 → (cx1 i).length ≤ 9223372036854775807)) (h1 : LR w 0 w.heap.size R1 rs1.length (gi (fl rs1)) T1 tn1 tx1 L1 ln1 lo1 lB1 (fun i => (lx1 i).length) ld1 (fun i k => gi (lx1 i) k) C1 cn1 cB1 (fun i => (cx1 i).length) cd1 (fun i k => gi (cx1 i) k)) :
    Calls Try.prog 4 #[.agg #[.slice A1 n1 c1, .slice A2 n2 c2, .slice A3 n3 c3, .int .i64 K.tick, .int .i64 K.run], .agg #[.int .i64 b1, .slice R1 rs1.length rc1, .slice T1 tn1 tc1, .slice L1 ln1 lc1, .slice C1 cn1 cc1]] w fun e w' => e = .returned (.bool true) ∧ Below w.heap.size w w' := by
  obtain ⟨w1, hw1⟩ : ∃ w1, w1 = (w.alloc (.cells #[.slice A1 n1 c1, .slice A2 n2 c2, .slice A3 n3 c3, .int .i64 K.tick, .int .i64 K.run] 26)).alloc (.cells #[.int .i64 b1, .slice R1 rs1.length rc1, .slice T1 tn1 tc1, .slice L1 ln1 lc1, .slice C1 cn1 cc1] 45) := ⟨_, rfl⟩
  have k1 : w1.heap[w.heap.size]? = some (.cells #[.slice A1 n1 c1, .slice A2 n2 c2, .slice A3 n3 c3, .int .i64 K.tick, .int .i64 K.run] 26 (0, 0)) := by rw [hw1]; exact heap_alloc2_old w _ _
  have k2 : w1.heap[w.heap.size + 1]? = some (.cells #[.int .i64 b1, .slice R1 rs1.length rc1, .slice T1 tn1 tc1, .slice L1 ln1 lc1, .slice C1 cn1 cc1] 45 (0, 0)) := by rw [hw1]; exact heap_alloc2_new w _ _
  have B1 : Hid (Below w.heap.size w w1) := by rw [hw1]; exact (below_new w _).alloc (by simp) _
  have Z1 : Hid (w1.heap.size = w.heap.size + 2) := by show _ = _; rw [hw1]; simp
  have QS : Hid (∀ W, Below w1.heap.size w1 W → W.cell? ⟨w.heap.size, 0, none⟩ = some (.slice A1 n1 c1) ∧ W.cell? ⟨w.heap.size, 1, none⟩ = some (.slice A2 n2 c2) ∧ W.cell? ⟨w.heap.size, 2, none⟩ = some (.slice A3 n3 c3) ∧ W.cell? ⟨w.heap.size, 3, none⟩ = some (.int .i64 K.tick) ∧ W.cell? ⟨w.heap.size, 4, none⟩ = some (.int .i64 K.run) ∧ W.cell? ⟨w.heap.size + 1, 0, none⟩ = some (.int .i64 b1) ∧ W.cell? ⟨w.heap.size + 1, 1, none⟩ = some (.slice R1 rs1.length rc1) ∧ W.cell? ⟨w.heap.size + 1, 2, none⟩ = some (.slice T1 tn1 tc1) ∧ W.cell? ⟨w.heap.size + 1, 3, none⟩ = some (.slice L1 ln1 lc1) ∧ W.cell? ⟨w.heap.size + 1, 4, none⟩ = some (.slice C1 cn1 cc1)) := fun W hW => by
    have j := (hW.block w.heap.size (by have := Z1.out; omega)).trans k1
    have j2 := (hW.block (w.heap.size + 1) (by have := Z1.out; omega)).trans k2
    exact ⟨cell_of_row W _ 0 _ _ _ j, cell_of_row W _ 1 _ _ _ j, cell_of_row W _ 2 _ _ _ j, cell_of_row W _ 3 _ _ _ j, cell_of_row W _ 4 _ _ _ j, cell_of_row W _ 0 _ _ _ j2, cell_of_row W _ 1 _ _ _ j2, cell_of_row W _ 2 _ _ _ j2, cell_of_row W _ 3 _ _ _ j2, cell_of_row W _ 4 _ _ _ j2⟩
  have FIN : Hid (∀ W, Below w1.heap.size w1 W → Below w.heap.size w W) := fun W hW => B1.out.trans (hW.mono (by have := Z1.out; omega))
  have HK : Hid (∀ W, Below w1.heap.size w1 W → KRead W 0 w.heap.size A1 n1 A2 n2 A3 n3 K) := fun W hW => h.below (FIN.out W hW) (Nat.le_refl _)
  have HA : Hid (∀ W, Below w1.heap.size w1 W → LR W 0 w.heap.size R1 rs1.length (gi (fl rs1)) T1 tn1 tx1 L1 ln1 lo1 lB1 (fun i => (lx1 i).length) ld1 (fun i k => gi (lx1 i) k) C1 cn1 cB1 (fun i => (cx1 i).length) cd1 (fun i k => gi (cx1 i) k)) := fun W hW => h1.below (FIN.out W hW) (Nat.le_refl _)
  have S1 := Lib.hid s1
  have HL := Lib.hid h.1
  have HW1 := Lib.hid hw1
  obtain ⟨q, v, hq⟩ : ∃ q v, honA K rs1.length = (q, v) := ⟨_, _, rfl⟩
  have HQ := Lib.hid hq
  have SZ := Lib.hid (szKernel_any A1 n1 c1 A2 n2 c2 A3 n3 c3 K.tick K.run 1048576 w1 (by omega) (by omega) m1 m2 m3)
  obtain ⟨sv, hsv⟩ : ∃ sv, sv = szk 1048576 n1 n2 n3 := ⟨_, rfl⟩
  rw [← hsv] at SZ
  have SV := Lib.hid hsv
  clear h hw1 hq k1 hsv m1 m2 m3 h1 s1 k2
  obtain ⟨q0, q1, q2, q3, q4, r0, r1, r2, r3, r4⟩ := QS.out w1 (Below.refl _ _)
  go_enter Try.func4, Try.ntmps4
  go_upto_region 1 with (fail)
  rw [← HW1.out]
  clear HW1
  go_wp2_with fail
  refine SZ.out.mono ?_
  rintro e w2 ⟨rfl, hb⟩
  have R2' := Lib.hid hb
  clear hb q0 q1 q2 q3 q4 r0 r1 r2 r3 r4 SZ
  by_cases hsz : sv < 0
  · go_wp2
    go_ret
    exact ⟨rfl, FIN.out _ R2'.out⟩
  have SM : Hid (n1 + n2 + n3 ≤ 1048576 ∧ sv ≤ 1048576) := by
    have hh := SV.out
    unfold szk at hh
    show _ ∧ _
    split at hh
    · omega
    · split at hh
      · omega
      · split at hh
        · omega
        · omega
  have TK : Hid (∀ W, Below w1.heap.size w1 W → Calls Try.prog 11 #[.agg #[.slice A1 n1 c1, .slice A2 n2 c2, .slice A3 n3 c3, .int .i64 K.tick, .int .i64 K.run]] W fun e w' => ∃ x1 x2 x3, e = .returned (.agg #[.slice (some ⟨x1, 0, none⟩) n1 n1, .slice (some ⟨x2, 0, none⟩) n2 n2, .slice (some ⟨x3, 0, none⟩) n3 n3, .int .i64 K.tick, .int .i64 K.run]) ∧ KRead w' 0 w'.heap.size (some ⟨x1, 0, none⟩) n1 (some ⟨x2, 0, none⟩) n2 (some ⟨x3, 0, none⟩) n3 K ∧ Below W.heap.size W w') := fun W hW =>
    (toKernel_any 0 w.heap.size A1 n1 c1 A2 n2 c2 A3 n3 c3 K.tick K.run K W (by have := SM.out; omega) (by have := SM.out; omega) (by have := SM.out; omega) (HK.out W hW)).mono fun e w' ⟨x1, x2, x3, he, ⟨z1, z2, z3, z4⟩, y1, y2, y3, hb⟩ => ⟨x1, x2, x3, he, kread_rows HL.out y1 y2 y3 ⟨by omega, by omega⟩ ⟨by omega, by omega⟩ ⟨by omega, by omega⟩, hb⟩
  have EK : Hid (∀ W x1 x2 x3 y1 y2 y3, KRead W 0 W.heap.size (some ⟨x1, 0, none⟩) n1 (some ⟨x2, 0, none⟩) n2 (some ⟨x3, 0, none⟩) n3 K → KRead W 0 W.heap.size (some ⟨y1, 0, none⟩) n1 (some ⟨y2, 0, none⟩) n2 (some ⟨y3, 0, none⟩) n3 K → Calls Try.prog 14 #[.agg #[.slice (some ⟨x1, 0, none⟩) n1 n1, .slice (some ⟨x2, 0, none⟩) n2 n2, .slice (some ⟨x3, 0, none⟩) n3 n3, .int .i64 K.tick, .int .i64 K.run], .agg #[.slice (some ⟨y1, 0, none⟩) n1 n1, .slice (some ⟨y2, 0, none⟩) n2 n2, .slice (some ⟨y3, 0, none⟩) n3 n3, .int .i64 K.tick, .int .i64 K.run]] W fun e w' => e = .returned (.bool true) ∧ Below W.heap.size W w') := fun W x1 x2 x3 y1 y2 y3 h1 h2 =>
    eqKernel_same 0 W.heap.size 0 W.heap.size _ n1 n1 _ n2 n2 _ n3 n3 _ n1 _ n2 _ n3 K.tick K.run K W (by have := SM.out; omega) (by have := SM.out; omega) (by have := SM.out; omega) h1 h2
  have hsz0 : 0 ≤ sv := by omega
  obtain ⟨q0, q1, q2, q3, q4, r0, r1, r2, r3, r4⟩ := QS.out w2 R2'.out
  go_wp2_with fail
  refine (szLib_any 0 w.heap.size b1 rc1 tc1 lc1 cc1 R1 rs1.length (gi (fl rs1)) T1 tn1 tx1 L1 ln1 lo1 lB1 (fun i => (lx1 i).length) ld1 (fun i k => gi (lx1 i) k) C1 cn1 cB1 (fun i => (cx1 i).length) cd1 (fun i k => gi (cx1 i) k) sv w2 ⟨hsz0, SM.out.2⟩ S1.out.1 S1.out.2.1 S1.out.2.2.1.1 S1.out.2.2.1.2 S1.out.2.2.2.1 S1.out.2.2.2.2 (HA.out w2 R2'.out)).mono ?_
  rintro e w3 ⟨lv, rfl, hv, hb⟩
  have R3' := Lib.hid (R2'.out.trans (hb.mono R2'.out.size))
  clear hb q0 q1 q2 q3 q4 r0 r1 r2 r3 r4
  rcases hv with rfl | ⟨v0, v1, hv⟩
  · go_wp2
    go_ret
    exact ⟨rfl, FIN.out _ R3'.out⟩
  have D1 := Lib.hid hv
  have g2 : ¬ lv < 0 := by omega
  clear v0 v1 hv S1
  have TL : Hid (∀ W, Below w1.heap.size w1 W → Calls Try.prog 17 #[.agg #[.int .i64 b1, .slice R1 rs1.length rc1, .slice T1 tn1 tc1, .slice L1 ln1 lc1, .slice C1 cn1 cc1]] W fun e w' => ∃ (pp1x1 pp2x1 pp3x1 pp4x1 : Nat) (mB1 mC1 : Nat → Option Addr), e = .returned (.agg #[.int .i64 b1, .slice (some ⟨pp1x1, 0, none⟩) rs1.length rs1.length, .slice (some ⟨pp2x1, 0, none⟩) tn1 tn1, .slice (some ⟨pp3x1, 0, none⟩) ln1 ln1, .slice (some ⟨pp4x1, 0, none⟩) cn1 cn1]) ∧ LR w' 0 w'.heap.size (some ⟨pp1x1, 0, none⟩) rs1.length (gi (fl rs1)) (some ⟨pp2x1, 0, none⟩) tn1 tx1 (some ⟨pp3x1, 0, none⟩) ln1 lo1 mB1 (fun i => (lx1 i).length) (fun i => (lx1 i).length) (fun i k => gi (lx1 i) k) (some ⟨pp4x1, 0, none⟩) cn1 mC1 (fun i => (cx1 i).length) (fun i => (cx1 i).length) (fun i k => gi (cx1 i) k) ∧ Below W.heap.size W w') := fun W hW => by
    refine (toLib_any 0 w.heap.size b1 rc1 tc1 lc1 cc1 R1 rs1.length (gi (fl rs1)) T1 tn1 tx1 L1 ln1 lo1 lB1 (fun i => (lx1 i).length) ld1 (fun i k => gi (lx1 i) k) C1 cn1 cB1 (fun i => (cx1 i).length) cd1 (fun i k => gi (cx1 i) k) W D1.out.1 D1.out.2.1 D1.out.2.2.1.1 D1.out.2.2.1.2 D1.out.2.2.2.1 D1.out.2.2.2.2 (HA.out W hW)).mono ?_
    rintro e w' ⟨pp1x1, pp2x1, pp3x1, pp4x1, mB1, mC1, he, hl, hb⟩
    exact ⟨pp1x1, pp2x1, pp3x1, pp4x1, mB1, mC1, he, hl.wide (Nat.zero_le _) (Nat.le_refl _), hb⟩
  have SP : Hid (∀ W x1 x2 x3 (pp1x1 pp2x1 pp3x1 pp4x1 : Nat), KRead W 0 W.heap.size (some ⟨x1, 0, none⟩) n1 (some ⟨x2, 0, none⟩) n2 (some ⟨x3, 0, none⟩) n3 K → Calls Try.prog 16 #[.agg #[.slice (some ⟨x1, 0, none⟩) n1 n1, .slice (some ⟨x2, 0, none⟩) n2 n2, .slice (some ⟨x3, 0, none⟩) n3 n3, .int .i64 K.tick, .int .i64 K.run], .agg #[.int .i64 b1, .slice (some ⟨pp1x1, 0, none⟩) rs1.length rs1.length, .slice (some ⟨pp2x1, 0, none⟩) tn1 tn1, .slice (some ⟨pp3x1, 0, none⟩) ln1 ln1, .slice (some ⟨pp4x1, 0, none⟩) cn1 cn1]] W fun e w' => e = .returned (.agg #[.int .i64 q, .int .i64 v]) ∧ Below W.heap.size W w') := fun W x1 x2 x3 pp1x1 pp2x1 pp3x1 pp4x1 hk => by
    have hh := specHonestAct_any 0 W.heap.size (some ⟨x1, 0, none⟩) n1 n1 (some ⟨x2, 0, none⟩) n2 n2 (some ⟨x3, 0, none⟩) n3 n3 K b1 (some ⟨pp1x1, 0, none⟩) rs1.length rs1.length (some ⟨pp2x1, 0, none⟩) tn1 tn1 (some ⟨pp3x1, 0, none⟩) ln1 ln1 (some ⟨pp4x1, 0, none⟩) cn1 cn1 W (by have := SM.out; omega) (by have := SM.out; omega) hk
    rw [HQ.out] at hh
    exact hh
  have IP : Hid (∀ W x1 x2 x3 (pp1x1 pp2x1 pp3x1 pp4x1 : Nat), KRead W 0 W.heap.size (some ⟨x1, 0, none⟩) n1 (some ⟨x2, 0, none⟩) n2 (some ⟨x3, 0, none⟩) n3 K → Calls Try.prog 18 #[.agg #[.slice (some ⟨x1, 0, none⟩) n1 n1, .slice (some ⟨x2, 0, none⟩) n2 n2, .slice (some ⟨x3, 0, none⟩) n3 n3, .int .i64 K.tick, .int .i64 K.run], .agg #[.int .i64 b1, .slice (some ⟨pp1x1, 0, none⟩) rs1.length rs1.length, .slice (some ⟨pp2x1, 0, none⟩) tn1 tn1, .slice (some ⟨pp3x1, 0, none⟩) ln1 ln1, .slice (some ⟨pp4x1, 0, none⟩) cn1 cn1]] W fun e w' => e = .returned (.agg #[.int .i64 q, .int .i64 v]) ∧ Below W.heap.size W w') := fun W x1 x2 x3 pp1x1 pp2x1 pp3x1 pp4x1 hk => by
    have hh := implHonestAct_any 0 W.heap.size (some ⟨x1, 0, none⟩) n1 n1 (some ⟨x2, 0, none⟩) n2 n2 (some ⟨x3, 0, none⟩) n3 n3 K b1 (some ⟨pp1x1, 0, none⟩) rs1.length rs1.length (some ⟨pp2x1, 0, none⟩) tn1 tn1 (some ⟨pp3x1, 0, none⟩) ln1 ln1 (some ⟨pp4x1, 0, none⟩) cn1 cn1 W (by have := SM.out; omega) (by have := SM.out; omega) hk
    rw [HQ.out] at hh
    exact hh
  obtain ⟨q0, q1, q2, q3, q4, r0, r1, r2, r3, r4⟩ := QS.out w3 R3'.out
  go_upto_region 8 with (fail)
  go_cut [6] from 10 (fun x6 wx => ∃ b6, x6 = .pointer (some ⟨b6, 0, none⟩) ∧ wx.heap[b6]? = some (.cells #[.int .i64 q, .int .i64 v] 29 (0, 0)) ∧ (w3.heap.size ≤ b6 ∧ b6 < wx.heap.size) ∧ Below w3.heap.size w3 wx)
  case first => as_aux_lemma =>
    refine wp_region_held_drew (S := fun W => W.cell? ⟨w.heap.size, 0, none⟩ = some (.slice A1 n1 c1) ∧ W.cell? ⟨w.heap.size, 1, none⟩ = some (.slice A2 n2 c2) ∧ W.cell? ⟨w.heap.size, 2, none⟩ = some (.slice A3 n3 c3) ∧ W.cell? ⟨w.heap.size, 3, none⟩ = some (.int .i64 K.tick) ∧ W.cell? ⟨w.heap.size, 4, none⟩ = some (.int .i64 K.run) ∧ W.cell? ⟨w.heap.size + 1, 0, none⟩ = some (.int .i64 b1) ∧ W.cell? ⟨w.heap.size + 1, 1, none⟩ = some (.slice R1 rs1.length rc1) ∧ W.cell? ⟨w.heap.size + 1, 2, none⟩ = some (.slice T1 tn1 tc1) ∧ W.cell? ⟨w.heap.size + 1, 3, none⟩ = some (.slice L1 ln1 lc1) ∧ W.cell? ⟨w.heap.size + 1, 4, none⟩ = some (.slice C1 cn1 cc1)) (by kernel_rfl) (QS.out _ R3'.out.drew) (fun hHeld => ?_)
    obtain ⟨v0, hv0⟩ : ∃ v0, v0 = w3.drew := ⟨_, rfl⟩
    have BL0 : Hid (Below w3.heap.size w3 v0) := by rw [hv0]; exact Below.drew (Below.refl _ _)
    rw [← hv0] at hHeld ⊢
    clear hv0
    refine wpAnyH_take (i := 0) (oi := _) (v := ?_) rfl (by kernel_rfl) (by kernel_rfl) (by kernel_rfl) (fun _ _ _ h => h) (Or.inl ⟨by rfl, ?_⟩) hHeld ?_
    rotate_left
    · (intro w hSw; (try dsimp only at hSw); go_simp; try with_reducible rfl)
    try simp only [Act.put, List.getElem_toArray, List.getElem_cons_succ, List.getElem_cons_zero, List.setIfInBounds_toArray, List.set_cons_zero, List.set_cons_succ]
    refine wpAnyH_take (i := 2) (oi := _) (v := ?_) rfl (by kernel_rfl) (by kernel_rfl) (by kernel_rfl) (fun _ _ _ h => h) (Or.inl ⟨by rfl, ?_⟩) hHeld ?_
    rotate_left
    · (intro w hSw; (try dsimp only at hSw); go_simp; try with_reducible rfl)
    try simp only [Act.put, List.getElem_toArray, List.getElem_cons_succ, List.getElem_cons_zero, List.setIfInBounds_toArray, List.set_cons_zero, List.set_cons_succ]
    refine wpAnyH_ready (rs := [1, 5]) (by kernel_rfl) (by simp) ?_
    refine AllReadyH.cons (o := _) rfl (fun K0 hK0 => ?_) (AllReadyH.cons (o := _) rfl (fun K0 hK0 => ?_) AllReadyH.nil)
    · go_simp
      refine (TK.out _ (R3'.out.trans ((BL0.out).mono R3'.out.size))).mono ?_
      rintro e9 v1 ⟨a1, a2, a3, rfl, hk, hb⟩
      go_wp2_with fail
      have BV1 := Lib.hid ((BL0.out).trans (hb.mono (BL0.out).size))
      have KQ := Lib.hid hk
      clear hk hb
      refine hK0.out _ _ (QS.out _ (R3'.out.trans ((BV1.out).mono R3'.out.size))) (fun hHeld => ?_)
      clear hK0 K0
      try simp only [Act.put, List.getElem_toArray, List.getElem_cons_succ, List.getElem_cons_zero, List.setIfInBounds_toArray, List.set_cons_zero, List.set_cons_succ]
      refine wpAnyH_ready (rs := [3, 5]) (by kernel_rfl) (by simp) ?_
      refine AllReadyH.cons (o := _) rfl (fun K0 hK0 => ?_) (AllReadyH.cons (o := _) rfl (fun K0 hK0 => ?_) AllReadyH.nil)
      · go_simp
        refine (TL.out _ (R3'.out.trans ((BV1.out).mono R3'.out.size))).mono ?_
        rintro e9 v2 ⟨pp1x1, pp2x1, pp3x1, pp4x1, mB1, mC1, rfl, hl, hb⟩
        go_wp2_with fail
        have BV2 := Lib.hid ((BV1.out).trans (hb.mono (BV1.out).size))
        have KQ := Lib.hid ((KQ.out.below hb (Nat.le_refl _)).wide (Nat.le_refl _) hb.size)
        clear hl hb
        refine hK0.out _ _ (QS.out _ (R3'.out.trans ((BV2.out).mono R3'.out.size))) (fun hHeld => ?_)
        clear hK0 K0
        try simp only [Act.put, List.getElem_toArray, List.getElem_cons_succ, List.getElem_cons_zero, List.setIfInBounds_toArray, List.set_cons_zero, List.set_cons_succ]
        refine wpAnyH_ready (rs := [4, 5]) (by kernel_rfl) (by simp) ?_
        refine AllReadyH.cons (o := _) rfl (fun K0 hK0 => ?_) (AllReadyH.cons (o := _) rfl (fun K0 hK0 => ?_) AllReadyH.nil)
        · go_simp
          refine (SP.out _ _ _ _ _ _ _ _ KQ.out).mono ?_
          rintro e9 v3 ⟨rfl, hb⟩
          go_wp2_with fail
          have BV3 := Lib.hid ((BV2.out).trans (hb.mono (BV2.out).size))
          have KQ := Lib.hid ((KQ.out.below hb (Nat.le_refl _)).wide (Nat.le_refl _) hb.size)
          clear hb
          refine hK0.out _ _ (QS.out _ (R3'.out.trans ((BV3.out).mono R3'.out.size))) (fun hHeld => ?_)
          clear hK0 K0
          try simp only [Act.put, List.getElem_toArray, List.getElem_cons_succ, List.getElem_cons_zero, List.setIfInBounds_toArray, List.set_cons_zero, List.set_cons_succ]
          refine wpAnyH_ready (rs := [5]) (by kernel_rfl) (by simp) ?_
          refine AllReadyH.cons (o := _) rfl (fun K0 hK0 => ?_) AllReadyH.nil
          go_simp
          obtain ⟨y3, hy3⟩ : ∃ y, y = v3.alloc (.cells #[.int .i64 0, .int .i64 0] 29) := ⟨_, rfl⟩
          obtain ⟨bx, hbx⟩ : ∃ b, b = v3.heap.size := ⟨_, rfl⟩
          rw [← hy3, ← hbx]
          have ZB := Lib.hid (show y3.heap[bx]? = some (.cells #[.int .i64 0, .int .i64 0] 29 (0, 0)) by rw [hy3, hbx]; exact heap_alloc_new _ _)
          have ZL := Lib.hid (show w3.heap.size ≤ bx by rw [hbx]; exact (BV3.out).size)
          have BY3 := Lib.hid (show Below w3.heap.size w3 y3 by rw [hy3]; exact (BV3.out).alloc (BV3.out).size _)
          have NX := Lib.hid (show Below v3.heap.size v3 y3 by rw [hy3]; exact below_new _ _)
          have KQ := Lib.hid ((KQ.out.below NX.out (Nat.le_refl _)).wide (Nat.le_refl _) NX.out.size)
          clear hy3 hbx NX
          refine hK0.out _ _ (QS.out _ (R3'.out.trans ((BY3.out).mono R3'.out.size))) (fun hHeld => ?_)
          clear hK0 K0
          try simp only [Act.put, List.getElem_toArray, List.getElem_cons_succ, List.getElem_cons_zero, List.setIfInBounds_toArray, List.set_cons_zero, List.set_cons_succ]
          refine wpAnyH_ready (rs := [6]) (by kernel_rfl) (by simp) ?_
          refine AllReadyH.cons (o := _) rfl (fun K0 hK0 => ?_) AllReadyH.nil
          clear hHeld
          rw [if_pos (by rfl)]
          refine wp_store_row 29 _ _ rfl (bx) _ rfl rfl 29 _ ZB.out (by kernel_rfl) rfl (by simp [Value.oneCell']) ?_
          refine hK0.out _ _ (QS.out _ (R3'.out.trans (((below_setRow (BY3.out) ZL.out _)).mono R3'.out.size))) (fun hHeld => ?_)
          clear hK0 K0
          try simp only [Act.put, List.getElem_toArray, List.getElem_cons_succ, List.getElem_cons_zero, List.setIfInBounds_toArray, List.set_cons_zero, List.set_cons_succ]
          refine wpAnyH_done (by kernel_rfl) ?_ _
          go_wp2_with fail
          go_meet
          case rel => exact ⟨bx, rfl, setRow_heap _ _ _ _ _ _ ZB.out, ⟨ZL.out, lt_row8 ZB.out⟩, below_setRow (BY3.out) ZL.out _⟩
        · go_simp
          obtain ⟨y2, hy2⟩ : ∃ y, y = v2.alloc (.cells #[.int .i64 0, .int .i64 0] 29) := ⟨_, rfl⟩
          obtain ⟨bx, hbx⟩ : ∃ b, b = v2.heap.size := ⟨_, rfl⟩
          rw [← hy2, ← hbx]
          have ZB := Lib.hid (show y2.heap[bx]? = some (.cells #[.int .i64 0, .int .i64 0] 29 (0, 0)) by rw [hy2, hbx]; exact heap_alloc_new _ _)
          have ZL := Lib.hid (show w3.heap.size ≤ bx by rw [hbx]; exact (BV2.out).size)
          have BY2 := Lib.hid (show Below w3.heap.size w3 y2 by rw [hy2]; exact (BV2.out).alloc (BV2.out).size _)
          have NX := Lib.hid (show Below v2.heap.size v2 y2 by rw [hy2]; exact below_new _ _)
          have KQ := Lib.hid ((KQ.out.below NX.out (Nat.le_refl _)).wide (Nat.le_refl _) NX.out.size)
          clear hy2 hbx NX
          refine hK0.out _ _ (QS.out _ (R3'.out.trans ((BY2.out).mono R3'.out.size))) (fun hHeld => ?_)
          clear hK0 K0
          try simp only [Act.put, List.getElem_toArray, List.getElem_cons_succ, List.getElem_cons_zero, List.setIfInBounds_toArray, List.set_cons_zero, List.set_cons_succ]
          refine wpAnyH_ready (rs := [4]) (by kernel_rfl) (by simp) ?_
          refine AllReadyH.cons (o := _) rfl (fun K0 hK0 => ?_) AllReadyH.nil
          go_simp
          refine (SP.out _ _ _ _ _ _ _ _ KQ.out).mono ?_
          rintro e9 v3 ⟨rfl, hb⟩
          go_wp2_with fail
          have BV3 := Lib.hid ((BY2.out).trans (hb.mono (BY2.out).size))
          have KQ := Lib.hid ((KQ.out.below hb (Nat.le_refl _)).wide (Nat.le_refl _) hb.size)
          have ZB := Lib.hid ((hb.block bx (Array.getElem?_eq_some_iff.1 ZB.out).1).trans ZB.out)
          clear hb
          refine hK0.out _ _ (QS.out _ (R3'.out.trans ((BV3.out).mono R3'.out.size))) (fun hHeld => ?_)
          clear hK0 K0
          try simp only [Act.put, List.getElem_toArray, List.getElem_cons_succ, List.getElem_cons_zero, List.setIfInBounds_toArray, List.set_cons_zero, List.set_cons_succ]
          refine wpAnyH_ready (rs := [6]) (by kernel_rfl) (by simp) ?_
          refine AllReadyH.cons (o := _) rfl (fun K0 hK0 => ?_) AllReadyH.nil
          clear hHeld
          rw [if_pos (by rfl)]
          refine wp_store_row 29 _ _ rfl (bx) _ rfl rfl 29 _ ZB.out (by kernel_rfl) rfl (by simp [Value.oneCell']) ?_
          refine hK0.out _ _ (QS.out _ (R3'.out.trans (((below_setRow (BV3.out) ZL.out _)).mono R3'.out.size))) (fun hHeld => ?_)
          clear hK0 K0
          try simp only [Act.put, List.getElem_toArray, List.getElem_cons_succ, List.getElem_cons_zero, List.setIfInBounds_toArray, List.set_cons_zero, List.set_cons_succ]
          refine wpAnyH_done (by kernel_rfl) ?_ _
          go_wp2_with fail
          go_meet
          case rel => exact ⟨bx, rfl, setRow_heap _ _ _ _ _ _ ZB.out, ⟨ZL.out, lt_row8 ZB.out⟩, below_setRow (BV3.out) ZL.out _⟩
      · go_simp
        obtain ⟨y1, hy1⟩ : ∃ y, y = v1.alloc (.cells #[.int .i64 0, .int .i64 0] 29) := ⟨_, rfl⟩
        obtain ⟨bx, hbx⟩ : ∃ b, b = v1.heap.size := ⟨_, rfl⟩
        rw [← hy1, ← hbx]
        have ZB := Lib.hid (show y1.heap[bx]? = some (.cells #[.int .i64 0, .int .i64 0] 29 (0, 0)) by rw [hy1, hbx]; exact heap_alloc_new _ _)
        have ZL := Lib.hid (show w3.heap.size ≤ bx by rw [hbx]; exact (BV1.out).size)
        have BY1 := Lib.hid (show Below w3.heap.size w3 y1 by rw [hy1]; exact (BV1.out).alloc (BV1.out).size _)
        have NX := Lib.hid (show Below v1.heap.size v1 y1 by rw [hy1]; exact below_new _ _)
        have KQ := Lib.hid ((KQ.out.below NX.out (Nat.le_refl _)).wide (Nat.le_refl _) NX.out.size)
        clear hy1 hbx NX
        refine hK0.out _ _ (QS.out _ (R3'.out.trans ((BY1.out).mono R3'.out.size))) (fun hHeld => ?_)
        clear hK0 K0
        try simp only [Act.put, List.getElem_toArray, List.getElem_cons_succ, List.getElem_cons_zero, List.setIfInBounds_toArray, List.set_cons_zero, List.set_cons_succ]
        refine wpAnyH_ready (rs := [3]) (by kernel_rfl) (by simp) ?_
        refine AllReadyH.cons (o := _) rfl (fun K0 hK0 => ?_) AllReadyH.nil
        go_simp
        refine (TL.out _ (R3'.out.trans ((BY1.out).mono R3'.out.size))).mono ?_
        rintro e9 v2 ⟨pp1x1, pp2x1, pp3x1, pp4x1, mB1, mC1, rfl, hl, hb⟩
        go_wp2_with fail
        have BV2 := Lib.hid ((BY1.out).trans (hb.mono (BY1.out).size))
        have KQ := Lib.hid ((KQ.out.below hb (Nat.le_refl _)).wide (Nat.le_refl _) hb.size)
        have ZB := Lib.hid ((hb.block bx (Array.getElem?_eq_some_iff.1 ZB.out).1).trans ZB.out)
        clear hl hb
        refine hK0.out _ _ (QS.out _ (R3'.out.trans ((BV2.out).mono R3'.out.size))) (fun hHeld => ?_)
        clear hK0 K0
        try simp only [Act.put, List.getElem_toArray, List.getElem_cons_succ, List.getElem_cons_zero, List.setIfInBounds_toArray, List.set_cons_zero, List.set_cons_succ]
        refine wpAnyH_ready (rs := [4]) (by kernel_rfl) (by simp) ?_
        refine AllReadyH.cons (o := _) rfl (fun K0 hK0 => ?_) AllReadyH.nil
        go_simp
        refine (SP.out _ _ _ _ _ _ _ _ KQ.out).mono ?_
        rintro e9 v3 ⟨rfl, hb⟩
        go_wp2_with fail
        have BV3 := Lib.hid ((BV2.out).trans (hb.mono (BV2.out).size))
        have KQ := Lib.hid ((KQ.out.below hb (Nat.le_refl _)).wide (Nat.le_refl _) hb.size)
        have ZB := Lib.hid ((hb.block bx (Array.getElem?_eq_some_iff.1 ZB.out).1).trans ZB.out)
        clear hb
        refine hK0.out _ _ (QS.out _ (R3'.out.trans ((BV3.out).mono R3'.out.size))) (fun hHeld => ?_)
        clear hK0 K0
        try simp only [Act.put, List.getElem_toArray, List.getElem_cons_succ, List.getElem_cons_zero, List.setIfInBounds_toArray, List.set_cons_zero, List.set_cons_succ]
        refine wpAnyH_ready (rs := [6]) (by kernel_rfl) (by simp) ?_
        refine AllReadyH.cons (o := _) rfl (fun K0 hK0 => ?_) AllReadyH.nil
        clear hHeld
        rw [if_pos (by rfl)]
        refine wp_store_row 29 _ _ rfl (bx) _ rfl rfl 29 _ ZB.out (by kernel_rfl) rfl (by simp [Value.oneCell']) ?_
        refine hK0.out _ _ (QS.out _ (R3'.out.trans (((below_setRow (BV3.out) ZL.out _)).mono R3'.out.size))) (fun hHeld => ?_)
        clear hK0 K0
        try simp only [Act.put, List.getElem_toArray, List.getElem_cons_succ, List.getElem_cons_zero, List.setIfInBounds_toArray, List.set_cons_zero, List.set_cons_succ]
        refine wpAnyH_done (by kernel_rfl) ?_ _
        go_wp2_with fail
        go_meet
        case rel => exact ⟨bx, rfl, setRow_heap _ _ _ _ _ _ ZB.out, ⟨ZL.out, lt_row8 ZB.out⟩, below_setRow (BV3.out) ZL.out _⟩
    · go_simp
      obtain ⟨y0, hy0⟩ : ∃ y, y = v0.alloc (.cells #[.int .i64 0, .int .i64 0] 29) := ⟨_, rfl⟩
      obtain ⟨bx, hbx⟩ : ∃ b, b = v0.heap.size := ⟨_, rfl⟩
      rw [← hy0, ← hbx]
      have ZB := Lib.hid (show y0.heap[bx]? = some (.cells #[.int .i64 0, .int .i64 0] 29 (0, 0)) by rw [hy0, hbx]; exact heap_alloc_new _ _)
      have ZL := Lib.hid (show w3.heap.size ≤ bx by rw [hbx]; exact (BL0.out).size)
      have BY0 := Lib.hid (show Below w3.heap.size w3 y0 by rw [hy0]; exact (BL0.out).alloc (BL0.out).size _)
      have NX := Lib.hid (show Below v0.heap.size v0 y0 by rw [hy0]; exact below_new _ _)
      clear hy0 hbx NX
      refine hK0.out _ _ (QS.out _ (R3'.out.trans ((BY0.out).mono R3'.out.size))) (fun hHeld => ?_)
      clear hK0 K0
      try simp only [Act.put, List.getElem_toArray, List.getElem_cons_succ, List.getElem_cons_zero, List.setIfInBounds_toArray, List.set_cons_zero, List.set_cons_succ]
      refine wpAnyH_ready (rs := [1]) (by kernel_rfl) (by simp) ?_
      refine AllReadyH.cons (o := _) rfl (fun K0 hK0 => ?_) AllReadyH.nil
      go_simp
      refine (TK.out _ (R3'.out.trans ((BY0.out).mono R3'.out.size))).mono ?_
      rintro e9 v1 ⟨a1, a2, a3, rfl, hk, hb⟩
      go_wp2_with fail
      have BV1 := Lib.hid ((BY0.out).trans (hb.mono (BY0.out).size))
      have KQ := Lib.hid hk
      have ZB := Lib.hid ((hb.block bx (Array.getElem?_eq_some_iff.1 ZB.out).1).trans ZB.out)
      clear hk hb
      refine hK0.out _ _ (QS.out _ (R3'.out.trans ((BV1.out).mono R3'.out.size))) (fun hHeld => ?_)
      clear hK0 K0
      try simp only [Act.put, List.getElem_toArray, List.getElem_cons_succ, List.getElem_cons_zero, List.setIfInBounds_toArray, List.set_cons_zero, List.set_cons_succ]
      refine wpAnyH_ready (rs := [3]) (by kernel_rfl) (by simp) ?_
      refine AllReadyH.cons (o := _) rfl (fun K0 hK0 => ?_) AllReadyH.nil
      go_simp
      refine (TL.out _ (R3'.out.trans ((BV1.out).mono R3'.out.size))).mono ?_
      rintro e9 v2 ⟨pp1x1, pp2x1, pp3x1, pp4x1, mB1, mC1, rfl, hl, hb⟩
      go_wp2_with fail
      have BV2 := Lib.hid ((BV1.out).trans (hb.mono (BV1.out).size))
      have KQ := Lib.hid ((KQ.out.below hb (Nat.le_refl _)).wide (Nat.le_refl _) hb.size)
      have ZB := Lib.hid ((hb.block bx (Array.getElem?_eq_some_iff.1 ZB.out).1).trans ZB.out)
      clear hl hb
      refine hK0.out _ _ (QS.out _ (R3'.out.trans ((BV2.out).mono R3'.out.size))) (fun hHeld => ?_)
      clear hK0 K0
      try simp only [Act.put, List.getElem_toArray, List.getElem_cons_succ, List.getElem_cons_zero, List.setIfInBounds_toArray, List.set_cons_zero, List.set_cons_succ]
      refine wpAnyH_ready (rs := [4]) (by kernel_rfl) (by simp) ?_
      refine AllReadyH.cons (o := _) rfl (fun K0 hK0 => ?_) AllReadyH.nil
      go_simp
      refine (SP.out _ _ _ _ _ _ _ _ KQ.out).mono ?_
      rintro e9 v3 ⟨rfl, hb⟩
      go_wp2_with fail
      have BV3 := Lib.hid ((BV2.out).trans (hb.mono (BV2.out).size))
      have KQ := Lib.hid ((KQ.out.below hb (Nat.le_refl _)).wide (Nat.le_refl _) hb.size)
      have ZB := Lib.hid ((hb.block bx (Array.getElem?_eq_some_iff.1 ZB.out).1).trans ZB.out)
      clear hb
      refine hK0.out _ _ (QS.out _ (R3'.out.trans ((BV3.out).mono R3'.out.size))) (fun hHeld => ?_)
      clear hK0 K0
      try simp only [Act.put, List.getElem_toArray, List.getElem_cons_succ, List.getElem_cons_zero, List.setIfInBounds_toArray, List.set_cons_zero, List.set_cons_succ]
      refine wpAnyH_ready (rs := [6]) (by kernel_rfl) (by simp) ?_
      refine AllReadyH.cons (o := _) rfl (fun K0 hK0 => ?_) AllReadyH.nil
      clear hHeld
      rw [if_pos (by rfl)]
      refine wp_store_row 29 _ _ rfl (bx) _ rfl rfl 29 _ ZB.out (by kernel_rfl) rfl (by simp [Value.oneCell']) ?_
      refine hK0.out _ _ (QS.out _ (R3'.out.trans (((below_setRow (BV3.out) ZL.out _)).mono R3'.out.size))) (fun hHeld => ?_)
      clear hK0 K0
      try simp only [Act.put, List.getElem_toArray, List.getElem_cons_succ, List.getElem_cons_zero, List.setIfInBounds_toArray, List.set_cons_zero, List.set_cons_succ]
      refine wpAnyH_done (by kernel_rfl) ?_ _
      go_wp2_with fail
      go_meet
      case rel => exact ⟨bx, rfl, setRow_heap _ _ _ _ _ _ ZB.out, ⟨ZL.out, lt_row8 ZB.out⟩, below_setRow (BV3.out) ZL.out _⟩
  case rest =>
    obtain ⟨w5, hw5⟩ : ∃ w5, w5 = wc := ⟨_, rfl⟩
    subst hw5
    obtain ⟨b6, rfl, hk5, hz5, hb5⟩ := hcut
    have R5' := Lib.hid (R3'.out.trans (hb5.mono R3'.out.size))
    have K5 := Lib.hid hk5
    clear hk5 hz5 hb5 q0 q1 q2 q3 q4 r0 r1 r2 r3 r4 SP
    have W0 : Hid (∀ W, Below w5.heap.size w5 W → (W.cell? ⟨b6, 0, none⟩ = some (.int .i64 q) ∧ W.cell? ⟨b6, 1, none⟩ = some (.int .i64 v))) := fun W hW => by
      have j := (hW.block b6 (Array.getElem?_eq_some_iff.1 K5.out).1).trans K5.out
      exact ⟨cell_of_row W _ 0 _ _ _ j, cell_of_row W _ 1 _ _ _ j⟩
    have R1w : Hid (∀ W, Below w5.heap.size w5 W → Below w1.heap.size w1 W) := fun W hW => R5'.out.trans (hW.mono R5'.out.size)
    clear K5
    -- the copies that the program gets
    obtain ⟨q0, q1, q2, q3, q4, r0, r1, r2, r3, r4⟩ := QS.out w5 R5'.out
    go_wp2_with fail
    refine (TK.out w5 R5'.out).mono ?_
    rintro e w6 ⟨t1, t2, t3, rfl, hk, hb⟩
    have K6 := Lib.hid hk
    have B56 := Lib.hid hb
    clear hk hb q0 q1 q2 q3 q4 r0 r1 r2 r3 r4
    obtain ⟨w7, hw7⟩ : ∃ w7, w7 = w6.alloc (.cells #[.slice (some ⟨t1, 0, none⟩) n1 n1, .slice (some ⟨t2, 0, none⟩) n2 n2, .slice (some ⟨t3, 0, none⟩) n3 n3, .int .i64 K.tick, .int .i64 K.run] 33) := ⟨_, rfl⟩
    have X7 : Hid (w7.heap[w6.heap.size]? = some (.cells #[.slice (some ⟨t1, 0, none⟩) n1 n1, .slice (some ⟨t2, 0, none⟩) n2 n2, .slice (some ⟨t3, 0, none⟩) n3 n3, .int .i64 K.tick, .int .i64 K.run] 33 (0, 0))) := by show _ = _; rw [hw7]; exact heap_alloc_new w6 _
    have BN7 : Hid (Below w6.heap.size w6 w7) := by rw [hw7]; exact below_new w6 _
    have HW := Lib.hid hw7
    clear hw7
    go_upto_region 10 with (fail)
    rw [← HW.out]
    clear HW
    have K7 := Lib.hid ((K6.out.below BN7.out (Nat.le_refl _)).wide (Nat.le_refl _) BN7.out.size)
    have R7 := Lib.hid (B56.out.trans (BN7.out.mono B56.out.size))
    have XS : Hid (∀ W, Below w7.heap.size w7 W → (W.cell? ⟨w6.heap.size, 0, none⟩ = some (.slice (some ⟨t1, 0, none⟩) n1 n1) ∧ W.cell? ⟨w6.heap.size, 1, none⟩ = some (.slice (some ⟨t2, 0, none⟩) n2 n2) ∧ W.cell? ⟨w6.heap.size, 2, none⟩ = some (.slice (some ⟨t3, 0, none⟩) n3 n3) ∧ W.cell? ⟨w6.heap.size, 3, none⟩ = some (.int .i64 K.tick) ∧ W.cell? ⟨w6.heap.size, 4, none⟩ = some (.int .i64 K.run))) := fun W hW => by
      have j := (hW.block w6.heap.size (Array.getElem?_eq_some_iff.1 X7.out).1).trans X7.out
      exact ⟨cell_of_row W _ 0 _ _ _ j, cell_of_row W _ 1 _ _ _ j, cell_of_row W _ 2 _ _ _ j, cell_of_row W _ 3 _ _ _ j, cell_of_row W _ 4 _ _ _ j⟩
    have KX : Hid (∀ W, Below w7.heap.size w7 W → KRead W 0 W.heap.size (some ⟨t1, 0, none⟩) n1 (some ⟨t2, 0, none⟩) n2 (some ⟨t3, 0, none⟩) n3 K) := fun W hW => (K7.out.below hW (Nat.le_refl _)).wide (Nat.le_refl _) hW.size
    clear K6 B56 X7 BN7 K7
    obtain ⟨q0, q1, q2, q3, q4, r0, r1, r2, r3, r4⟩ := QS.out w7 (R1w.out _ R7.out)
    go_wp2_with fail
    refine (TL.out w7 (R1w.out _ R7.out)).mono ?_
    rintro e w8 ⟨pp1x1, pp2x1, pp3x1, pp4x1, mB1, mC1, rfl, hl, hb⟩
    have L8 := Lib.hid hl
    have B78 := Lib.hid hb
    clear hl hb q0 q1 q2 q3 q4 r0 r1 r2 r3 r4
    obtain ⟨w9, hw9⟩ : ∃ w9, w9 = w8.alloc (.cells #[.int .i64 b1, .slice (some ⟨pp1x1, 0, none⟩) rs1.length rs1.length, .slice (some ⟨pp2x1, 0, none⟩) tn1 tn1, .slice (some ⟨pp3x1, 0, none⟩) ln1 ln1, .slice (some ⟨pp4x1, 0, none⟩) cn1 cn1] 54) := ⟨_, rfl⟩
    have X9 : Hid (w9.heap[w8.heap.size]? = some (.cells #[.int .i64 b1, .slice (some ⟨pp1x1, 0, none⟩) rs1.length rs1.length, .slice (some ⟨pp2x1, 0, none⟩) tn1 tn1, .slice (some ⟨pp3x1, 0, none⟩) ln1 ln1, .slice (some ⟨pp4x1, 0, none⟩) cn1 cn1] 54 (0, 0))) := by show _ = _; rw [hw9]; exact heap_alloc_new w8 _
    have BN9 : Hid (Below w8.heap.size w8 w9) := by rw [hw9]; exact below_new w8 _
    have HW := Lib.hid hw9
    clear hw9
    go_upto_region 11 with (fail)
    rw [← HW.out]
    clear HW
    have L9 := Lib.hid ((L8.out.below BN9.out (Nat.le_refl _)).wide (Nat.le_refl _) BN9.out.size)
    have R79 := Lib.hid (B78.out.trans (BN9.out.mono B78.out.size))
    have R9 := Lib.hid (R7.out.trans (R79.out.mono R7.out.size))
    have LS : Hid (∀ W, Below w9.heap.size w9 W → (W.cell? ⟨w8.heap.size, 0, none⟩ = some (.int .i64 b1) ∧ W.cell? ⟨w8.heap.size, 1, none⟩ = some (.slice (some ⟨pp1x1, 0, none⟩) rs1.length rs1.length) ∧ W.cell? ⟨w8.heap.size, 2, none⟩ = some (.slice (some ⟨pp2x1, 0, none⟩) tn1 tn1) ∧ W.cell? ⟨w8.heap.size, 3, none⟩ = some (.slice (some ⟨pp3x1, 0, none⟩) ln1 ln1) ∧ W.cell? ⟨w8.heap.size, 4, none⟩ = some (.slice (some ⟨pp4x1, 0, none⟩) cn1 cn1))) := fun W hW => by
      have j := (hW.block w8.heap.size (Array.getElem?_eq_some_iff.1 X9.out).1).trans X9.out
      exact ⟨cell_of_row W _ 0 _ _ _ j, cell_of_row W _ 1 _ _ _ j, cell_of_row W _ 2 _ _ _ j, cell_of_row W _ 3 _ _ _ j, cell_of_row W _ 4 _ _ _ j⟩
    have LX : Hid (∀ W, Below w9.heap.size w9 W → LR W 0 W.heap.size (some ⟨pp1x1, 0, none⟩) rs1.length (gi (fl rs1)) (some ⟨pp2x1, 0, none⟩) tn1 tx1 (some ⟨pp3x1, 0, none⟩) ln1 lo1 mB1 (fun i => (lx1 i).length) (fun i => (lx1 i).length) (fun i k => gi (lx1 i) k) (some ⟨pp4x1, 0, none⟩) cn1 mC1 (fun i => (cx1 i).length) (fun i => (cx1 i).length) (fun i k => gi (cx1 i) k)) := fun W hW => (L9.out.below hW (Nat.le_refl _)).wide (Nat.le_refl _) hW.size
    have R7w : Hid (∀ W, Below w9.heap.size w9 W → Below w7.heap.size w7 W) := fun W hW => R79.out.trans (hW.mono R79.out.size)
    clear L8 B78 X9 BN9 L9
    obtain ⟨x0, x1, x2, x3, x4⟩ := XS.out w9 (R7w.out _ (Below.refl _ _))
    obtain ⟨y0, y1, y2, y3, y4⟩ := LS.out w9 (Below.refl _ _)
    go_wp2_with fail
    refine (IP.out w9 _ _ _ _ _ _ _ (KX.out w9 (R7w.out _ (Below.refl _ _)))).mono ?_
    rintro e w10 ⟨rfl, hb⟩
    have B10 := Lib.hid hb
    clear hb x0 x1 x2 x3 x4 y0 y1 y2 y3 y4
    obtain ⟨w11, hw11⟩ : ∃ w11, w11 = w10.alloc (.cells #[.int .i64 q, .int .i64 v] 29) := ⟨_, rfl⟩
    have X11 : Hid (w11.heap[w10.heap.size]? = some (.cells #[.int .i64 q, .int .i64 v] 29 (0, 0))) := by show _ = _; rw [hw11]; exact heap_alloc_new w10 _
    have R11 : Hid (Below w9.heap.size w9 w11) := by rw [hw11]; exact B10.out.alloc B10.out.size _
    have HW := Lib.hid hw11
    clear hw11
    go_upto_region 12 with (fail)
    rw [← HW.out]
    clear HW
    obtain ⟨s0, s1⟩ := W0.out w11 (R9.out.trans (R11.out.mono R9.out.size))
    have z0 := cell_of_row w11 _ 0 _ _ _ X11.out; have z1 := cell_of_row w11 _ 1 _ _ _ X11.out
    simp at z0 z1
    clear X11
    go_wp2_with fail
    refine (eqIntResult8_same q v w11).mono ?_
    rintro e w12 ⟨rfl, hb⟩
    have R12 := Lib.hid (R11.out.trans (hb.mono R11.out.size))
    clear hb s0 s1 z0 z1 W0
    have R5w : Hid (∀ W, Below w9.heap.size w9 W → Below w1.heap.size w1 W) := fun W hW => R1w.out W (R9.out.trans (hW.mono R9.out.size))
    go_upto_region 14 with (fail)
    go_cut [40] from 10 (fun s wx => s = .bool false ∧ Below w9.heap.size w9 wx)
    case first =>
      focus
        have KH : Hid (∀ W, Below w9.heap.size w9 W → (W.cell? ⟨w.heap.size, 0, none⟩ = some (.slice A1 n1 c1) ∧ W.cell? ⟨w.heap.size, 1, none⟩ = some (.slice A2 n2 c2) ∧ W.cell? ⟨w.heap.size, 2, none⟩ = some (.slice A3 n3 c3) ∧ W.cell? ⟨w.heap.size, 3, none⟩ = some (.int .i64 K.tick) ∧ W.cell? ⟨w.heap.size, 4, none⟩ = some (.int .i64 K.run) ∧ W.cell? ⟨w.heap.size + 1, 0, none⟩ = some (.int .i64 b1) ∧ W.cell? ⟨w.heap.size + 1, 1, none⟩ = some (.slice R1 rs1.length rc1) ∧ W.cell? ⟨w.heap.size + 1, 2, none⟩ = some (.slice T1 tn1 tc1) ∧ W.cell? ⟨w.heap.size + 1, 3, none⟩ = some (.slice L1 ln1 lc1) ∧ W.cell? ⟨w.heap.size + 1, 4, none⟩ = some (.slice C1 cn1 cc1)) ∧ (W.cell? ⟨w6.heap.size, 0, none⟩ = some (.slice (some ⟨t1, 0, none⟩) n1 n1) ∧ W.cell? ⟨w6.heap.size, 1, none⟩ = some (.slice (some ⟨t2, 0, none⟩) n2 n2) ∧ W.cell? ⟨w6.heap.size, 2, none⟩ = some (.slice (some ⟨t3, 0, none⟩) n3 n3) ∧ W.cell? ⟨w6.heap.size, 3, none⟩ = some (.int .i64 K.tick) ∧ W.cell? ⟨w6.heap.size, 4, none⟩ = some (.int .i64 K.run)) ∧ (W.cell? ⟨w8.heap.size, 0, none⟩ = some (.int .i64 b1) ∧ W.cell? ⟨w8.heap.size, 1, none⟩ = some (.slice (some ⟨pp1x1, 0, none⟩) rs1.length rs1.length) ∧ W.cell? ⟨w8.heap.size, 2, none⟩ = some (.slice (some ⟨pp2x1, 0, none⟩) tn1 tn1) ∧ W.cell? ⟨w8.heap.size, 3, none⟩ = some (.slice (some ⟨pp3x1, 0, none⟩) ln1 ln1) ∧ W.cell? ⟨w8.heap.size, 4, none⟩ = some (.slice (some ⟨pp4x1, 0, none⟩) cn1 cn1)) ∧ Below w9.heap.size w9 W) := fun W hW => ⟨QS.out W (R5w.out W hW), XS.out W (R7w.out W hW), LS.out W hW, hW⟩
        have TT : Hid (∀ W, Below w9.heap.size w9 W → Calls Try.prog 11 #[.agg #[.slice A1 n1 c1, .slice A2 n2 c2, .slice A3 n3 c3, .int .i64 K.tick, .int .i64 K.run]] W fun e w' => ∃ y1 y2 y3, e = .returned (.agg #[.slice (some ⟨y1, 0, none⟩) n1 n1, .slice (some ⟨y2, 0, none⟩) n2 n2, .slice (some ⟨y3, 0, none⟩) n3 n3, .int .i64 K.tick, .int .i64 K.run]) ∧ KRead w' 0 w'.heap.size (some ⟨y1, 0, none⟩) n1 (some ⟨y2, 0, none⟩) n2 (some ⟨y3, 0, none⟩) n3 K ∧ Below w9.heap.size w9 w') := fun W hW => (TK.out W (R5w.out W hW)).mono fun e w' ⟨y1, y2, y3, he, hk, hb⟩ => ⟨y1, y2, y3, he, hk, hW.trans (hb.mono hW.size)⟩
        have EE : Hid (∀ W y1 y2 y3, KRead W 0 W.heap.size (some ⟨y1, 0, none⟩) n1 (some ⟨y2, 0, none⟩) n2 (some ⟨y3, 0, none⟩) n3 K → Below w9.heap.size w9 W → Calls Try.prog 14 #[.agg #[.slice (some ⟨t1, 0, none⟩) n1 n1, .slice (some ⟨t2, 0, none⟩) n2 n2, .slice (some ⟨t3, 0, none⟩) n3 n3, .int .i64 K.tick, .int .i64 K.run], .agg #[.slice (some ⟨y1, 0, none⟩) n1 n1, .slice (some ⟨y2, 0, none⟩) n2 n2, .slice (some ⟨y3, 0, none⟩) n3 n3, .int .i64 K.tick, .int .i64 K.run]] W fun e w' => e = .returned (.bool true) ∧ Below w9.heap.size w9 w') := fun W y1 y2 y3 hk hW => (EK.out W _ _ _ _ _ _ (KX.out W (R7w.out W hW)) hk).mono fun e w' ⟨he, hb⟩ => ⟨he, hW.trans (hb.mono hW.size)⟩
        have na1 := Lib.hid (R12.out)
        go_region_held3 (fun W => (W.cell? ⟨w.heap.size, 0, none⟩ = some (.slice A1 n1 c1) ∧ W.cell? ⟨w.heap.size, 1, none⟩ = some (.slice A2 n2 c2) ∧ W.cell? ⟨w.heap.size, 2, none⟩ = some (.slice A3 n3 c3) ∧ W.cell? ⟨w.heap.size, 3, none⟩ = some (.int .i64 K.tick) ∧ W.cell? ⟨w.heap.size, 4, none⟩ = some (.int .i64 K.run) ∧ W.cell? ⟨w.heap.size + 1, 0, none⟩ = some (.int .i64 b1) ∧ W.cell? ⟨w.heap.size + 1, 1, none⟩ = some (.slice R1 rs1.length rc1) ∧ W.cell? ⟨w.heap.size + 1, 2, none⟩ = some (.slice T1 tn1 tc1) ∧ W.cell? ⟨w.heap.size + 1, 3, none⟩ = some (.slice L1 ln1 lc1) ∧ W.cell? ⟨w.heap.size + 1, 4, none⟩ = some (.slice C1 cn1 cc1)) ∧ (W.cell? ⟨w6.heap.size, 0, none⟩ = some (.slice (some ⟨t1, 0, none⟩) n1 n1) ∧ W.cell? ⟨w6.heap.size, 1, none⟩ = some (.slice (some ⟨t2, 0, none⟩) n2 n2) ∧ W.cell? ⟨w6.heap.size, 2, none⟩ = some (.slice (some ⟨t3, 0, none⟩) n3 n3) ∧ W.cell? ⟨w6.heap.size, 3, none⟩ = some (.int .i64 K.tick) ∧ W.cell? ⟨w6.heap.size, 4, none⟩ = some (.int .i64 K.run)) ∧ (W.cell? ⟨w8.heap.size, 0, none⟩ = some (.int .i64 b1) ∧ W.cell? ⟨w8.heap.size, 1, none⟩ = some (.slice (some ⟨pp1x1, 0, none⟩) rs1.length rs1.length) ∧ W.cell? ⟨w8.heap.size, 2, none⟩ = some (.slice (some ⟨pp2x1, 0, none⟩) tn1 tn1) ∧ W.cell? ⟨w8.heap.size, 3, none⟩ = some (.slice (some ⟨pp3x1, 0, none⟩) ln1 ln1) ∧ W.cell? ⟨w8.heap.size, 4, none⟩ = some (.slice (some ⟨pp4x1, 0, none⟩) cn1 cn1)) ∧ Below w9.heap.size w9 W) (first | with_reducible exact KH.out _ (by assumption) | exact KH.out _ (Below.drew na1.out)) (first | (go_at_call 11; with_reducible refine (TT.out _ (by go_split_ands; assumption)).mono ?_; rintro e w' ⟨y1, y2, y3, rfl, hLQ, hb9⟩) | (go_at_call 14; with_reducible refine (EE.out _ _ _ _ hLQ (by go_split_ands; assumption)).mono ?_; rintro e w' ⟨rfl, hb9⟩))
        all_goals (go_wp2_with fail; go_meet; exact ⟨rfl, by assumption⟩)
    case rest =>
      obtain ⟨rfl, hbw⟩ := hcut
      have R14 := Lib.hid hbw
      clear hbw
      go_upto_region 16 with (fail)
      go_cut [45] from 10 (fun s wx => s = .bool false ∧ Below w9.heap.size w9 wx)
      case first =>
        focus
          have KH : Hid (∀ W, Below w9.heap.size w9 W → (W.cell? ⟨w.heap.size, 0, none⟩ = some (.slice A1 n1 c1) ∧ W.cell? ⟨w.heap.size, 1, none⟩ = some (.slice A2 n2 c2) ∧ W.cell? ⟨w.heap.size, 2, none⟩ = some (.slice A3 n3 c3) ∧ W.cell? ⟨w.heap.size, 3, none⟩ = some (.int .i64 K.tick) ∧ W.cell? ⟨w.heap.size, 4, none⟩ = some (.int .i64 K.run) ∧ W.cell? ⟨w.heap.size + 1, 0, none⟩ = some (.int .i64 b1) ∧ W.cell? ⟨w.heap.size + 1, 1, none⟩ = some (.slice R1 rs1.length rc1) ∧ W.cell? ⟨w.heap.size + 1, 2, none⟩ = some (.slice T1 tn1 tc1) ∧ W.cell? ⟨w.heap.size + 1, 3, none⟩ = some (.slice L1 ln1 lc1) ∧ W.cell? ⟨w.heap.size + 1, 4, none⟩ = some (.slice C1 cn1 cc1)) ∧ (W.cell? ⟨w6.heap.size, 0, none⟩ = some (.slice (some ⟨t1, 0, none⟩) n1 n1) ∧ W.cell? ⟨w6.heap.size, 1, none⟩ = some (.slice (some ⟨t2, 0, none⟩) n2 n2) ∧ W.cell? ⟨w6.heap.size, 2, none⟩ = some (.slice (some ⟨t3, 0, none⟩) n3 n3) ∧ W.cell? ⟨w6.heap.size, 3, none⟩ = some (.int .i64 K.tick) ∧ W.cell? ⟨w6.heap.size, 4, none⟩ = some (.int .i64 K.run)) ∧ (W.cell? ⟨w8.heap.size, 0, none⟩ = some (.int .i64 b1) ∧ W.cell? ⟨w8.heap.size, 1, none⟩ = some (.slice (some ⟨pp1x1, 0, none⟩) rs1.length rs1.length) ∧ W.cell? ⟨w8.heap.size, 2, none⟩ = some (.slice (some ⟨pp2x1, 0, none⟩) tn1 tn1) ∧ W.cell? ⟨w8.heap.size, 3, none⟩ = some (.slice (some ⟨pp3x1, 0, none⟩) ln1 ln1) ∧ W.cell? ⟨w8.heap.size, 4, none⟩ = some (.slice (some ⟨pp4x1, 0, none⟩) cn1 cn1)) ∧ Below w9.heap.size w9 W) := fun W hW => ⟨QS.out W (R5w.out W hW), XS.out W (R7w.out W hW), LS.out W hW, hW⟩
          have TT : Hid (∀ W, Below w9.heap.size w9 W → Calls Try.prog 17 #[.agg #[.int .i64 b1, .slice R1 rs1.length rc1, .slice T1 tn1 tc1, .slice L1 ln1 lc1, .slice C1 cn1 cc1]] W fun e w' => ∃ (pp1x1' pp2x1' pp3x1' pp4x1' : Nat) (mB1' mC1' : Nat → Option Addr), e = .returned (.agg #[.int .i64 b1, .slice (some ⟨pp1x1', 0, none⟩) rs1.length rs1.length, .slice (some ⟨pp2x1', 0, none⟩) tn1 tn1, .slice (some ⟨pp3x1', 0, none⟩) ln1 ln1, .slice (some ⟨pp4x1', 0, none⟩) cn1 cn1]) ∧ LR w' 0 w'.heap.size (some ⟨pp1x1', 0, none⟩) rs1.length (gi (fl rs1)) (some ⟨pp2x1', 0, none⟩) tn1 tx1 (some ⟨pp3x1', 0, none⟩) ln1 lo1 mB1' (fun i => (lx1 i).length) (fun i => (lx1 i).length) (fun i k => gi (lx1 i) k) (some ⟨pp4x1', 0, none⟩) cn1 mC1' (fun i => (cx1 i).length) (fun i => (cx1 i).length) (fun i k => gi (cx1 i) k) ∧ Below w9.heap.size w9 w') := fun W hW => (TL.out W (R5w.out W hW)).mono fun e w' ⟨pp1x1', pp2x1', pp3x1', pp4x1', mB1', mC1', x1, x2, x4⟩ => ⟨pp1x1', pp2x1', pp3x1', pp4x1', mB1', mC1', x1, x2, hW.trans (x4.mono hW.size)⟩
          have EE : Hid (∀ W (pp1x1' pp2x1' pp3x1' pp4x1' : Nat) (mB1' mC1' : Nat → Option Addr), LR W 0 W.heap.size (some ⟨pp1x1', 0, none⟩) rs1.length (gi (fl rs1)) (some ⟨pp2x1', 0, none⟩) tn1 tx1 (some ⟨pp3x1', 0, none⟩) ln1 lo1 mB1' (fun i => (lx1 i).length) (fun i => (lx1 i).length) (fun i k => gi (lx1 i) k) (some ⟨pp4x1', 0, none⟩) cn1 mC1' (fun i => (cx1 i).length) (fun i => (cx1 i).length) (fun i k => gi (cx1 i) k) → Below w9.heap.size w9 W → Calls Try.prog 19 #[.agg #[.int .i64 b1, .slice (some ⟨pp1x1, 0, none⟩) rs1.length rs1.length, .slice (some ⟨pp2x1, 0, none⟩) tn1 tn1, .slice (some ⟨pp3x1, 0, none⟩) ln1 ln1, .slice (some ⟨pp4x1, 0, none⟩) cn1 cn1], .agg #[.int .i64 b1, .slice (some ⟨pp1x1', 0, none⟩) rs1.length rs1.length, .slice (some ⟨pp2x1', 0, none⟩) tn1 tn1, .slice (some ⟨pp3x1', 0, none⟩) ln1 ln1, .slice (some ⟨pp4x1', 0, none⟩) cn1 cn1]] W fun e w' => e = .returned (.bool true) ∧ Below w9.heap.size w9 w') := fun W pp1x1' pp2x1' pp3x1' pp4x1' mB1' mC1' hl hW => by
            refine (eqLib_same 0 W.heap.size 0 W.heap.size b1 _ _ _ _ _ _ _ _ _ _ _ _ _ _ _ _ _ _ _ _ _ _ _ _ _ _ _ _ _ _ _ _ _ _ _ W D1.out.1 D1.out.2.1 D1.out.2.2.1.1 D1.out.2.2.1.2 D1.out.2.2.2.1 D1.out.2.2.2.2 (LX.out W hW) hl).mono fun e w' ⟨x1, x2⟩ => ⟨x1, hW.trans (x2.mono hW.size)⟩
          have na1 := Lib.hid (R14.out)
          go_region_held3 (fun W => (W.cell? ⟨w.heap.size, 0, none⟩ = some (.slice A1 n1 c1) ∧ W.cell? ⟨w.heap.size, 1, none⟩ = some (.slice A2 n2 c2) ∧ W.cell? ⟨w.heap.size, 2, none⟩ = some (.slice A3 n3 c3) ∧ W.cell? ⟨w.heap.size, 3, none⟩ = some (.int .i64 K.tick) ∧ W.cell? ⟨w.heap.size, 4, none⟩ = some (.int .i64 K.run) ∧ W.cell? ⟨w.heap.size + 1, 0, none⟩ = some (.int .i64 b1) ∧ W.cell? ⟨w.heap.size + 1, 1, none⟩ = some (.slice R1 rs1.length rc1) ∧ W.cell? ⟨w.heap.size + 1, 2, none⟩ = some (.slice T1 tn1 tc1) ∧ W.cell? ⟨w.heap.size + 1, 3, none⟩ = some (.slice L1 ln1 lc1) ∧ W.cell? ⟨w.heap.size + 1, 4, none⟩ = some (.slice C1 cn1 cc1)) ∧ (W.cell? ⟨w6.heap.size, 0, none⟩ = some (.slice (some ⟨t1, 0, none⟩) n1 n1) ∧ W.cell? ⟨w6.heap.size, 1, none⟩ = some (.slice (some ⟨t2, 0, none⟩) n2 n2) ∧ W.cell? ⟨w6.heap.size, 2, none⟩ = some (.slice (some ⟨t3, 0, none⟩) n3 n3) ∧ W.cell? ⟨w6.heap.size, 3, none⟩ = some (.int .i64 K.tick) ∧ W.cell? ⟨w6.heap.size, 4, none⟩ = some (.int .i64 K.run)) ∧ (W.cell? ⟨w8.heap.size, 0, none⟩ = some (.int .i64 b1) ∧ W.cell? ⟨w8.heap.size, 1, none⟩ = some (.slice (some ⟨pp1x1, 0, none⟩) rs1.length rs1.length) ∧ W.cell? ⟨w8.heap.size, 2, none⟩ = some (.slice (some ⟨pp2x1, 0, none⟩) tn1 tn1) ∧ W.cell? ⟨w8.heap.size, 3, none⟩ = some (.slice (some ⟨pp3x1, 0, none⟩) ln1 ln1) ∧ W.cell? ⟨w8.heap.size, 4, none⟩ = some (.slice (some ⟨pp4x1, 0, none⟩) cn1 cn1)) ∧ Below w9.heap.size w9 W) (first | with_reducible exact KH.out _ (by assumption) | exact KH.out _ (Below.drew na1.out)) (first | (go_at_call 17; with_reducible refine (TT.out _ (by go_split_ands; assumption)).mono ?_; rintro e w' ⟨pp1x1', pp2x1', pp3x1', pp4x1', mB1', mC1', rfl, hLQ, hb9⟩) | (go_at_call 19; with_reducible refine (EE.out _ _ _ _ _ _ _ hLQ (by go_split_ands; assumption)).mono ?_; rintro e w' ⟨rfl, hb9⟩))
          all_goals (go_wp2_with fail; go_meet; exact ⟨rfl, by assumption⟩)
      case rest =>
        obtain ⟨rfl, hbw⟩ := hcut
        go_wp2
        go_ret
        exact ⟨rfl, FIN.out _ (R5w.out _ hbw)⟩

end Go.Proofs.Ytaemegkdmbhpnaa
