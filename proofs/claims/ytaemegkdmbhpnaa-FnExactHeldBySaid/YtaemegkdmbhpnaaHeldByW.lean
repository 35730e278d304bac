/-
  The walk of FnExactHeldBy: whatever came in, it returns true.
-/
import Derived.Test.YtaemegkdmbhpnaaHb7c
import Derived.Test.YtaemegkdmbhpnaaMk7e
import Derived.Test.YtaemegkdmbhpnaaColl5
import Derived.Test.YtaemegkdmbhpnaaLib7b
import Derived.Deep.RegionHeld3
namespace Go.Proofs.Ytaemegkdmbhpnaa
open Go.RowKit
set_option maxRecDepth 100000

theorem LBM.lr {W : World} {lo u1 rn : Nat} {rx : Nat → Int} {u2 tn : Nat} {tx : Nat → Int} {u3 ln : Nat} {lo7 : Nat → Int} {lU lm : Nat → Nat} {lx : Nat → Nat → Int} {u4 cn : Nat} {cU cm : Nat → Nat} {cx : Nat → Nat → Int} (h : LBM W lo u1 rn rx u2 tn tx u3 ln lo7 lU lm lx u4 cn cU cm cx) :
    LR W lo W.heap.size (some ⟨u1, 0, none⟩) rn rx (some ⟨u2, 0, none⟩) tn tx (some ⟨u3, 0, none⟩) ln lo7 (bl7 lU) lm lm lx (some ⟨u4, 0, none⟩) cn (bl7 cU) cm cm cx := by
  have o := h.o
  have l := h.l.gl
  have c := h.c.gl
  exact ⟨h.r.sl (by omega) (by omega), h.t.sl (by omega) (by omega), ⟨h.l.row.sl (by omega) (by omega), fun i hi => (h.l.qs i hi).2.sl (by have := (h.l.qs i hi).1; omega) (by have := (h.l.qs i hi).1; omega)⟩, ⟨h.c.row.sl (by omega) (by omega), fun i hi => (h.c.qs i hi).2.sl (by have := (h.c.qs i hi).1; omega) (by have := (h.c.qs i hi).1; omega)⟩⟩
theorem or_mine7 {w : World} {base n c : Nat} {A : Option Addr} {hs : List Int} (h : OR 2 1 w base A n c hs) : Mine w base w.heap.size 2 A n (fun k => .int .i64 (gi hs k)) := by
  rcases Nat.eq_zero_or_pos n with h0 | h0
  · exact .inl h0
  · obtain ⟨g, rfl, h1, h2⟩ := OR.pos h h0
    refine .inr ⟨g, 0, rfl, h1, h2, ?_⟩
    have := OR.row h
    rwa [Nat.mul_one] at this

set_option maxHeartbeats 16000000 in
theorem walkHeldBy (b1 : Int) (rs1 : List R3) (R1 : Option Addr) (rc1 : Nat) (T1 : Option Addr) (tn1 tc1 : Nat) (tx1 : Nat → Int) (L1 : Option Addr) (ln1 lc1 : Nat) (lo1 : Nat → Int) (lB1 : Nat → Option Addr) (ld1 : Nat → Nat) (lx1 : Nat → List Int) (C1 : Option Addr) (cn1 cc1 : Nat) (cB1 : Nat → Option Addr) (cd1 : Nat → Nat) (cx1 : Nat → List Int) (id : Int) (w : World) (s1 : rs1.length ≤ 9223372036854775807 ∧ tn1 ≤ 9223372036854775807 ∧ (ln1 ≤ 9223372036854775807 ∧ ∀ i, i < ln1 → (lx1 i).length ≤ 9223372036854775807) ∧ (cn1 ≤ 9223372036854775807 ∧ ∀ i, i < cn1 → (cx1 i).length ≤ 9223372036854775807)) (h1 : LR w 0 w.heap.size R1 rs1.length (gi (fl rs1)) T1 tn1 tx1 L1 ln1 lo1 lB1 (fun i => (lx1 i).length) ld1 (fun i k => gi (lx1 i) k) C1 cn1 cB1 (fun i => (cx1 i).length) cd1 (fun i k => gi (cx1 i) k)) :
    Calls Try.prog 5 #[.agg #[.int .i64 b1, .slice R1 rs1.length rc1, .slice T1 tn1 tc1, .slice L1 ln1 lc1, .slice C1 cn1 cc1], .int .i64 id] w fun e w' => e = .returned (.bool true) ∧ Below w.heap.size w w' := by
  obtain ⟨w1, hw1⟩ : ∃ w1, w1 = w.alloc (.cells #[.int .i64 b1, .slice R1 rs1.length rc1, .slice T1 tn1 tc1, .slice L1 ln1 lc1, .slice C1 cn1 cc1] 45) := ⟨_, rfl⟩
  have k1 : w1.heap[w.heap.size]? = some (.cells #[.int .i64 b1, .slice R1 rs1.length rc1, .slice T1 tn1 tc1, .slice L1 ln1 lc1, .slice C1 cn1 cc1] 45 (0, 0)) := by rw [hw1]; exact heap_alloc_new w _
  have B1 : Hid (Below w.heap.size w w1) := by rw [hw1]; exact below_new w _
  have Z1 : Hid (w1.heap.size = w.heap.size + 1) := by show _ = _; rw [hw1]; simp
  have KS : Hid (∀ W, Below w1.heap.size w1 W → W.cell? ⟨w.heap.size, 0, none⟩ = some (.int .i64 b1) ∧ W.cell? ⟨w.heap.size, 1, none⟩ = some (.slice R1 rs1.length rc1) ∧ W.cell? ⟨w.heap.size, 2, none⟩ = some (.slice T1 tn1 tc1) ∧ W.cell? ⟨w.heap.size, 3, none⟩ = some (.slice L1 ln1 lc1) ∧ W.cell? ⟨w.heap.size, 4, none⟩ = some (.slice C1 cn1 cc1)) := fun W hW => by
    have j := (hW.block w.heap.size (by have := Z1.out; omega)).trans k1
    exact ⟨cell_of_row W _ 0 _ _ _ j, cell_of_row W _ 1 _ _ _ j, cell_of_row W _ 2 _ _ _ j, cell_of_row W _ 3 _ _ _ j, cell_of_row W _ 4 _ _ _ j⟩
  have FIN : Hid (∀ W, Below w1.heap.size w1 W → Below w.heap.size w W) := fun W hW => B1.out.trans (hW.mono (by have := Z1.out; omega))
  have HA : Hid (∀ W, Below w1.heap.size w1 W → LR W 0 w.heap.size R1 rs1.length (gi (fl rs1)) T1 tn1 tx1 L1 ln1 lo1 lB1 (fun i => (lx1 i).length) ld1 (fun i k => gi (lx1 i) k) C1 cn1 cB1 (fun i => (cx1 i).length) cd1 (fun i k => gi (cx1 i) k)) := fun W hW => h1.below (FIN.out W hW) (Nat.le_refl _)
  have HW1 := Lib.hid hw1
  have S1 := Lib.hid s1
  obtain ⟨q, qs, hq⟩ : ∃ q qs, hby7 lo1 id ln1 = (q, qs) := ⟨_, _, rfl⟩
  have HQ := Lib.hid hq
  obtain ⟨nq, hnq⟩ : ∃ nq, nq = qs.length := ⟨_, rfl⟩
  have NQ := Lib.hid hnq
  clear h1 s1 k1 hw1 hq hnq
  obtain ⟨r0, r1, r2, r3, r4⟩ := KS.out w1 (Below.refl _ _)
  go_enter Try.func5, Try.ntmps5
  go_upto_region 1 with (fail)
  rw [← HW1.out]
  clear HW1
  go_wp2_with fail
  refine (szLib_any 0 w.heap.size b1 rc1 tc1 lc1 cc1 R1 rs1.length (gi (fl rs1)) T1 tn1 tx1 L1 ln1 lo1 lB1 (fun i => (lx1 i).length) ld1 (fun i k => gi (lx1 i) k) C1 cn1 cB1 (fun i => (cx1 i).length) cd1 (fun i k => gi (cx1 i) k) 1048576 w1 (by omega) S1.out.1 S1.out.2.1 S1.out.2.2.1.1 S1.out.2.2.1.2 S1.out.2.2.2.1 S1.out.2.2.2.2 (HA.out w1 (Below.refl _ _))).mono ?_
  rintro e w2 ⟨v, rfl, hv, hb⟩
  have R2' := Lib.hid hb
  clear hb r0 r1 r2 r3 r4
  rcases hv with rfl | ⟨v0, v1, hv⟩
  · go_wp2
    go_ret
    exact ⟨rfl, FIN.out _ R2'.out⟩
  have D1 := Lib.hid hv
  have g1 : ¬ v < 0 := by omega
  clear v0 v1 hv S1
  have NL : Hid (nq ≤ 1048576) := by
    have h := HQ.out
    have hl := D1.out.2.2.1.1
    show nq ≤ _
    rw [NQ.out]
    unfold hby7 at h
    split at h
    · cases h; simp
    · cases h
      exact Nat.le_trans (hb7_len lo1 id ln1) hl
  have TA : Hid (∀ W, Below w1.heap.size w1 W → Calls Try.prog 17 #[.agg #[.int .i64 b1, .slice R1 rs1.length rc1, .slice T1 tn1 tc1, .slice L1 ln1 lc1, .slice C1 cn1 cc1]] W fun e w' => ∃ (pp1x1 pp2x1 pp3x1 pp4x1 : Nat) (mB1 mC1 : Nat → Option Addr), e = .returned (.agg #[.int .i64 b1, .slice (some ⟨pp1x1, 0, none⟩) rs1.length rs1.length, .slice (some ⟨pp2x1, 0, none⟩) tn1 tn1, .slice (some ⟨pp3x1, 0, none⟩) ln1 ln1, .slice (some ⟨pp4x1, 0, none⟩) cn1 cn1]) ∧ LR w' 0 w'.heap.size (some ⟨pp1x1, 0, none⟩) rs1.length (gi (fl rs1)) (some ⟨pp2x1, 0, none⟩) tn1 tx1 (some ⟨pp3x1, 0, none⟩) ln1 lo1 mB1 (fun i => (lx1 i).length) (fun i => (lx1 i).length) (fun i k => gi (lx1 i) k) (some ⟨pp4x1, 0, none⟩) cn1 mC1 (fun i => (cx1 i).length) (fun i => (cx1 i).length) (fun i k => gi (cx1 i) k) ∧ Below w1.heap.size w1 w' ∧ Below W.heap.size W w') := fun W hW => by
    refine (toLib_any 0 w.heap.size b1 rc1 tc1 lc1 cc1 R1 rs1.length (gi (fl rs1)) T1 tn1 tx1 L1 ln1 lo1 lB1 (fun i => (lx1 i).length) ld1 (fun i k => gi (lx1 i) k) C1 cn1 cB1 (fun i => (cx1 i).length) cd1 (fun i k => gi (cx1 i) k) W D1.out.1 D1.out.2.1 D1.out.2.2.1.1 D1.out.2.2.1.2 D1.out.2.2.2.1 D1.out.2.2.2.2 (HA.out W hW)).mono ?_
    rintro e w' ⟨pp1x1, pp2x1, pp3x1, pp4x1, mB1, mC1, he, hl, hb⟩
    exact ⟨pp1x1, pp2x1, pp3x1, pp4x1, mB1, mC1, he, hl.wide (Nat.zero_le _) (Nat.le_refl _), hW.trans (hb.mono hW.size), hb⟩
  have TM : Hid (∀ W, Below w1.heap.size w1 W → Calls Try.prog 17 #[.agg #[.int .i64 b1, .slice R1 rs1.length rc1, .slice T1 tn1 tc1, .slice L1 ln1 lc1, .slice C1 cn1 cc1]] W fun e w' => ∃ (px1 px2 px3 px4 : Nat) (xU cU : Nat → Nat), e = .returned (.agg #[.int .i64 b1, .slice (some ⟨px1, 0, none⟩) rs1.length rs1.length, .slice (some ⟨px2, 0, none⟩) tn1 tn1, .slice (some ⟨px3, 0, none⟩) ln1 ln1, .slice (some ⟨px4, 0, none⟩) cn1 cn1]) ∧ LBM w' (W.heap.size + 3) px1 rs1.length (gi (fl rs1)) px2 tn1 tx1 px3 ln1 lo1 xU (fun i => (lx1 i).length) (fun i k => gi (lx1 i) k) px4 cn1 cU (fun i => (cx1 i).length) (fun i k => gi (cx1 i) k) ∧ Below W.heap.size W w') := fun W hW =>
    toLibM_any 0 w.heap.size b1 rc1 tc1 lc1 cc1 R1 rs1.length (gi (fl rs1)) T1 tn1 tx1 L1 ln1 lo1 lB1 (fun i => (lx1 i).length) ld1 (fun i k => gi (lx1 i) k) C1 cn1 cB1 (fun i => (cx1 i).length) cd1 (fun i k => gi (cx1 i) k) W D1.out.1 D1.out.2.1 D1.out.2.2.1.1 D1.out.2.2.1.2 D1.out.2.2.2.1 D1.out.2.2.2.2 (HA.out W hW)
  have SP : Hid (∀ W (pp1x1 pp2x1 pp3x1 pp4x1 : Nat) (mB1 mC1 : Nat → Option Addr), LR W 0 W.heap.size (some ⟨pp1x1, 0, none⟩) rs1.length (gi (fl rs1)) (some ⟨pp2x1, 0, none⟩) tn1 tx1 (some ⟨pp3x1, 0, none⟩) ln1 lo1 mB1 (fun i => (lx1 i).length) (fun i => (lx1 i).length) (fun i k => gi (lx1 i) k) (some ⟨pp4x1, 0, none⟩) cn1 mC1 (fun i => (cx1 i).length) (fun i => (cx1 i).length) (fun i k => gi (cx1 i) k) → Calls Try.prog 20 #[.agg #[.int .i64 b1, .slice (some ⟨pp1x1, 0, none⟩) rs1.length rs1.length, .slice (some ⟨pp2x1, 0, none⟩) tn1 tn1, .slice (some ⟨pp3x1, 0, none⟩) ln1 ln1, .slice (some ⟨pp4x1, 0, none⟩) cn1 cn1], .int .i64 id] W fun e w' => ∃ A c, e = .returned (.agg #[.int .i64 q, .slice A nq c]) ∧ OR 2 1 w' W.heap.size A nq c qs ∧ Below W.heap.size W w') := by
    intro W pp1x1 pp2x1 pp3x1 pp4x1 mB1 mC1 hl
    refine (specHeldBy_any 0 W.heap.size b1 _ _ _ _ _ _ _ ln1 ln1 _ _ _ lo1 _ (fun i => (lx1 i).length) _ (fun i k => gi (lx1 i) k) id W D1.out.2.2.1.1 hl.l).mono ?_
    rintro e w' ⟨A, c, he, ho, hb⟩
    rw [HQ.out] at he ho
    rw [NQ.out]
    exact ⟨A, c, he, ho, hb⟩
  have IP : Hid (∀ W (pp1x1 pp2x1 pp3x1 pp4x1 : Nat) (mB1 mC1 : Nat → Option Addr), LR W 0 W.heap.size (some ⟨pp1x1, 0, none⟩) rs1.length (gi (fl rs1)) (some ⟨pp2x1, 0, none⟩) tn1 tx1 (some ⟨pp3x1, 0, none⟩) ln1 lo1 mB1 (fun i => (lx1 i).length) (fun i => (lx1 i).length) (fun i k => gi (lx1 i) k) (some ⟨pp4x1, 0, none⟩) cn1 mC1 (fun i => (cx1 i).length) (fun i => (cx1 i).length) (fun i k => gi (cx1 i) k) → Calls Try.prog 21 #[.agg #[.int .i64 b1, .slice (some ⟨pp1x1, 0, none⟩) rs1.length rs1.length, .slice (some ⟨pp2x1, 0, none⟩) tn1 tn1, .slice (some ⟨pp3x1, 0, none⟩) ln1 ln1, .slice (some ⟨pp4x1, 0, none⟩) cn1 cn1], .int .i64 id] W fun e w' => ∃ A c, e = .returned (.agg #[.int .i64 q, .slice A nq c]) ∧ OR 2 1 w' W.heap.size A nq c qs ∧ Below W.heap.size W w') := by
    intro W pp1x1 pp2x1 pp3x1 pp4x1 mB1 mC1 hl
    refine (implHeldBy_any 0 W.heap.size b1 _ _ _ _ _ _ _ ln1 ln1 _ _ _ lo1 _ (fun i => (lx1 i).length) _ (fun i k => gi (lx1 i) k) id W D1.out.2.2.1.1 hl.l).mono ?_
    rintro e w' ⟨A, c, he, ho, hb⟩
    rw [HQ.out] at he ho
    rw [NQ.out]
    exact ⟨A, c, he, ho, hb⟩
  clear HA
  obtain ⟨r0, r1, r2, r3, r4⟩ := KS.out w2 R2'.out
  -- the model on a copy
  go_wp2_with fail
  refine (TA.out w2 R2'.out).mono ?_
  rintro e w3 ⟨pp1x1, pp2x1, pp3x1, pp4x1, mB1, mC1, rfl, hLA, hb9, hbb⟩
  have LA3 := Lib.hid hLA
  have R3' := Lib.hid hb9
  clear hLA hb9 hbb r0 r1 r2 r3 r4
  go_wp2_with fail
  refine (SP.out w3 _ _ _ _ _ _ LA3.out).mono ?_
  rintro e w4 ⟨A0, c0, rfl, hO0, hbb⟩
  have O0 := Lib.hid hO0
  have B34 := Lib.hid hbb
  have R4' := Lib.hid (R3'.out.trans (hbb.mono R3'.out.size))
  clear hO0 hbb LA3
  obtain ⟨w5, hw5⟩ : ∃ w5, w5 = w4.alloc (.cells #[.int .i64 q, .slice A0 nq c0] 59) := ⟨_, rfl⟩
  have K5 : Hid (w5.heap[w4.heap.size]? = some (.cells #[.int .i64 q, .slice A0 nq c0] 59 (0, 0))) := by show _ = _; rw [hw5]; exact heap_alloc_new w4 _
  have BN5 : Hid (Below w4.heap.size w4 w5) := by rw [hw5]; exact below_new w4 _
  have ZN5 : Hid (w5.heap.size = w4.heap.size + 1) := by show _ = _; rw [hw5]; simp
  have R5' := Lib.hid (R4'.out.trans (BN5.out.mono R4'.out.size))
  have HW := Lib.hid hw5
  clear hw5
  go_upto_region 6 with (fail)
  rw [← HW.out]
  clear HW
  have W0 : Hid (∀ W, Below w5.heap.size w5 W → (W.cell? ⟨w4.heap.size, 0, none⟩ = some (.int .i64 q) ∧ W.cell? ⟨w4.heap.size, 1, none⟩ = some (.slice A0 nq c0)) ∧ Sl W w3.heap.size w4.heap.size A0 nq (fun k => .int .i64 (gi qs k))) := fun W hW => by
    have j := (hW.block w4.heap.size (by have := ZN5.out; omega)).trans K5.out
    refine ⟨⟨cell_of_row W _ 0 _ _ _ j, cell_of_row W _ 1 _ _ _ j⟩, ?_⟩
    exact ((or_mine7 O0.out).sl.below BN5.out (Nat.le_refl _)).below hW (by have := ZN5.out; omega)
  have R1w : Hid (∀ W, Below w5.heap.size w5 W → Below w1.heap.size w1 W) := fun W hW => R5'.out.trans (hW.mono R5'.out.size)
  clear O0 K5 BN5 B34 R3' R4'
  obtain ⟨r0, r1, r2, r3, r4⟩ := KS.out w5 R5'.out
  -- the copy that the program gets
  go_wp2_with fail
  refine (TM.out w5 R5'.out).mono ?_
  rintro e w6 ⟨px1, px2, px3, px4, xU, cU, rfl, hLM, hbb⟩
  have LM6 := Lib.hid hLM
  have B56 := Lib.hid hbb
  clear hLM hbb r0 r1 r2 r3 r4
  obtain ⟨w7, hw7⟩ : ∃ w7, w7 = w6.alloc (.cells #[.int .i64 b1, .slice (some ⟨px1, 0, none⟩) rs1.length rs1.length, .slice (some ⟨px2, 0, none⟩) tn1 tn1, .slice (some ⟨px3, 0, none⟩) ln1 ln1, .slice (some ⟨px4, 0, none⟩) cn1 cn1] 54) := ⟨_, rfl⟩
  have K7 : Hid (w7.heap[w6.heap.size]? = some (.cells #[.int .i64 b1, .slice (some ⟨px1, 0, none⟩) rs1.length rs1.length, .slice (some ⟨px2, 0, none⟩) tn1 tn1, .slice (some ⟨px3, 0, none⟩) ln1 ln1, .slice (some ⟨px4, 0, none⟩) cn1 cn1] 54 (0, 0))) := by show _ = _; rw [hw7]; exact heap_alloc_new w6 _
  have BN7 : Hid (Below w6.heap.size w6 w7) := by rw [hw7]; exact below_new w6 _
  have ZN7 : Hid (w7.heap.size = w6.heap.size + 1) := by show _ = _; rw [hw7]; simp
  have HW := Lib.hid hw7
  clear hw7
  go_upto_region 7 with (fail)
  rw [← HW.out]
  clear HW
  have XS : Hid (∀ W, Below w7.heap.size w7 W → W.cell? ⟨w6.heap.size, 0, none⟩ = some (.int .i64 b1) ∧ W.cell? ⟨w6.heap.size, 1, none⟩ = some (.slice (some ⟨px1, 0, none⟩) rs1.length rs1.length) ∧ W.cell? ⟨w6.heap.size, 2, none⟩ = some (.slice (some ⟨px2, 0, none⟩) tn1 tn1) ∧ W.cell? ⟨w6.heap.size, 3, none⟩ = some (.slice (some ⟨px3, 0, none⟩) ln1 ln1) ∧ W.cell? ⟨w6.heap.size, 4, none⟩ = some (.slice (some ⟨px4, 0, none⟩) cn1 cn1)) := fun W hW => by
    have j := (hW.block w6.heap.size (by have := ZN7.out; omega)).trans K7.out
    exact ⟨cell_of_row W _ 0 _ _ _ j, cell_of_row W _ 1 _ _ _ j, cell_of_row W _ 2 _ _ _ j, cell_of_row W _ 3 _ _ _ j, cell_of_row W _ 4 _ _ _ j⟩
  have XR : Hid (∀ W, Below w7.heap.size w7 W → LR W 0 W.heap.size (some ⟨px1, 0, none⟩) rs1.length (gi (fl rs1)) (some ⟨px2, 0, none⟩) tn1 tx1 (some ⟨px3, 0, none⟩) ln1 lo1 (bl7 xU) (fun i => (lx1 i).length) (fun i => (lx1 i).length) (fun i k => gi (lx1 i) k) (some ⟨px4, 0, none⟩) cn1 (bl7 cU) (fun i => (cx1 i).length) (fun i => (cx1 i).length) (fun i k => gi (cx1 i) k)) := fun W hW => by
    have s7 := ZN7.out
    have s8 := hW.size
    exact ((LM6.out.lr.below BN7.out (Nat.le_refl _)).below hW (by omega)).wide (Nat.zero_le _) (by omega)
  have R5w : Hid (∀ W, Below w7.heap.size w7 W → Below w5.heap.size w5 W) := fun W hW => (B56.out.trans (BN7.out.mono B56.out.size)).trans (hW.mono (by have := ZN7.out; have := B56.out.size; omega))
  have MK : Hid (∀ W, Below w7.heap.size w7 W → Calls Try.prog 23 #[.agg #[.int .i64 b1, .slice (some ⟨px1, 0, none⟩) rs1.length rs1.length, .slice (some ⟨px2, 0, none⟩) tn1 tn1, .slice (some ⟨px3, 0, none⟩) ln1 ln1, .slice (some ⟨px4, 0, none⟩) cn1 cn1], .int .i64 1] W fun e w' => ∃ M : Nat, e = .returned (.int .i64 M) ∧ Only (w5.heap.size + 3) w6.heap.size W w') := fun W hW => by
    have s7 := ZN7.out
    have s8 := hW.size
    have hb : Below w6.heap.size w6 W := BN7.out.trans (hW.mono (by omega))
    have oo := LM6.out.o
    have ol := LM6.out.l.gl
    have oc := LM6.out.c.gl
    exact markLib_any (w5.heap.size + 3) w6.heap.size b1 rs1.length tn1 ln1 cn1 px1 rs1.length (gi (fl rs1)) px2 tn1 tx1 px3 ln1 lo1 xU (fun i => (lx1 i).length) (fun i k => gi (lx1 i) k) px4 cn1 cU (fun i => (cx1 i).length) (fun i k => gi (cx1 i) k) W D1.out.1 D1.out.2.1 D1.out.2.2.1.1 D1.out.2.2.1.2 D1.out.2.2.2.1 D1.out.2.2.2.2 (LM6.out.r.keep (hb.block _ (by omega))) (LM6.out.t.keep (hb.block _ (by omega))) (LM6.out.l.keep7 fun b _ h _ => hb.block b (by omega)) (LM6.out.c.keep7 fun b _ h _ => hb.block b (by omega)) LM6.out.o (by omega)
  have Z57 : Hid (w5.heap.size ≤ w6.heap.size ∧ w7.heap.size = w6.heap.size + 1 ∧ w4.heap.size < w5.heap.size) := ⟨B56.out.size, ZN7.out, by have := ZN5.out; omega⟩
  clear LM6 K7 BN7 ZN7 B56 TM ZN5
  obtain ⟨x0, x1, x2, x3, x4⟩ := XS.out w7 (Below.refl _ _)
  go_wp2_with fail
  refine (IP.out w7 _ _ _ _ _ _ (XR.out w7 (Below.refl _ _))).mono ?_
  rintro e w8 ⟨A1, c1, rfl, hO1, hbb⟩
  have O1 := Lib.hid hO1
  have B78 := Lib.hid hbb
  clear hO1 hbb x0 x1 x2 x3 x4
  obtain ⟨w9, hw9⟩ : ∃ w9, w9 = w8.alloc (.cells #[.int .i64 q, .slice A1 nq c1] 59) := ⟨_, rfl⟩
  have K9 : Hid (w9.heap[w8.heap.size]? = some (.cells #[.int .i64 q, .slice A1 nq c1] 59 (0, 0))) := by show _ = _; rw [hw9]; exact heap_alloc_new w8 _
  have BN9 : Hid (Below w8.heap.size w8 w9) := by rw [hw9]; exact below_new w8 _
  have ZN9 : Hid (w9.heap.size = w8.heap.size + 1) := by show _ = _; rw [hw9]; simp
  have Z79 : Hid (w7.heap.size ≤ w8.heap.size ∧ w9.heap.size = w8.heap.size + 1) := ⟨B78.out.size, ZN9.out⟩
  have HW := Lib.hid hw9
  clear hw9
  go_upto_region 8 with (fail)
  rw [← HW.out]
  clear HW
  have R7w : Hid (∀ W, Below w9.heap.size w9 W → Below w7.heap.size w7 W) := fun W hW => (B78.out.trans (BN9.out.mono B78.out.size)).trans (hW.mono (by have := ZN9.out; have := B78.out.size; omega))
  have GS : Hid (∀ W, Below w9.heap.size w9 W → W.heap[w8.heap.size]? = some (.cells #[.int .i64 q, .slice A1 nq c1] 59 (0, 0)) ∧ Mine W w7.heap.size w8.heap.size 2 A1 nq (fun k => .int .i64 (gi qs k))) := fun W hW => by
    exact ⟨(hW.block w8.heap.size (by have := ZN9.out; omega)).trans K9.out, ((or_mine7 O1.out).below BN9.out (Nat.le_refl _)).below hW (by have := ZN9.out; omega)⟩
  have XRR := XR
  clear O1 K9 BN9 ZN9 B78 XR
  obtain ⟨⟨y0, y1⟩, hs0⟩ := W0.out w9 (R5w.out _ (R7w.out _ (Below.refl _ _)))
  obtain ⟨hg, hm1⟩ := GS.out w9 (Below.refl _ _)
  have z0 := cell_of_row w9 _ 0 _ _ _ hg; have z1 := cell_of_row w9 _ 1 _ _ _ hg
  simp at z0 z1
  have S0 := Lib.hid hs0; have M1 := Lib.hid hm1
  clear hs0 hm1 hg
  go_wp2_with fail
  refine (eqIntsResult_same _ _ _ _ A1 A0 nq c1 c0 q (gi qs) w9 (by have := NL.out; omega) M1.out.sl S0.out).mono ?_
  rintro e w10 ⟨rfl, hb⟩
  have R10 := Lib.hid hb
  clear hb y0 y1 z0 z1 S0 M1
  go_upto_region 10 with (fail)
  go_cut [35] from 13 (fun s wx => s = .bool false ∧ Below w9.heap.size w9 wx)
  case first =>
    focus
      have KH : Hid (∀ W, Below w9.heap.size w9 W → ((W.cell? ⟨w.heap.size, 0, none⟩ = some (.int .i64 b1) ∧ W.cell? ⟨w.heap.size, 1, none⟩ = some (.slice R1 rs1.length rc1) ∧ W.cell? ⟨w.heap.size, 2, none⟩ = some (.slice T1 tn1 tc1) ∧ W.cell? ⟨w.heap.size, 3, none⟩ = some (.slice L1 ln1 lc1) ∧ W.cell? ⟨w.heap.size, 4, none⟩ = some (.slice C1 cn1 cc1)) ∧ (W.cell? ⟨w6.heap.size, 0, none⟩ = some (.int .i64 b1) ∧ W.cell? ⟨w6.heap.size, 1, none⟩ = some (.slice (some ⟨px1, 0, none⟩) rs1.length rs1.length) ∧ W.cell? ⟨w6.heap.size, 2, none⟩ = some (.slice (some ⟨px2, 0, none⟩) tn1 tn1) ∧ W.cell? ⟨w6.heap.size, 3, none⟩ = some (.slice (some ⟨px3, 0, none⟩) ln1 ln1) ∧ W.cell? ⟨w6.heap.size, 4, none⟩ = some (.slice (some ⟨px4, 0, none⟩) cn1 cn1)) ∧ Below w9.heap.size w9 W)) := fun W hW => ⟨KS.out W (R1w.out W (R5w.out W (R7w.out W hW))), XS.out W (R7w.out W hW), hW⟩
      have TT : Hid (∀ W, Below w9.heap.size w9 W → Calls Try.prog 17 #[.agg #[.int .i64 b1, .slice R1 rs1.length rc1, .slice T1 tn1 tc1, .slice L1 ln1 lc1, .slice C1 cn1 cc1]] W fun e w' => ∃ (pp1x1 pp2x1 pp3x1 pp4x1 : Nat) (mB1 mC1 : Nat → Option Addr), e = .returned (.agg #[.int .i64 b1, .slice (some ⟨pp1x1, 0, none⟩) rs1.length rs1.length, .slice (some ⟨pp2x1, 0, none⟩) tn1 tn1, .slice (some ⟨pp3x1, 0, none⟩) ln1 ln1, .slice (some ⟨pp4x1, 0, none⟩) cn1 cn1]) ∧ LR w' 0 w'.heap.size (some ⟨pp1x1, 0, none⟩) rs1.length (gi (fl rs1)) (some ⟨pp2x1, 0, none⟩) tn1 tx1 (some ⟨pp3x1, 0, none⟩) ln1 lo1 mB1 (fun i => (lx1 i).length) (fun i => (lx1 i).length) (fun i k => gi (lx1 i) k) (some ⟨pp4x1, 0, none⟩) cn1 mC1 (fun i => (cx1 i).length) (fun i => (cx1 i).length) (fun i k => gi (cx1 i) k) ∧ Below w9.heap.size w9 w') := fun W hW => (TA.out W (R1w.out W (R5w.out W (R7w.out W hW)))).mono fun e w' ⟨pp1x1, pp2x1, pp3x1, pp4x1, mB1, mC1, x1, x2, _, x4⟩ => ⟨pp1x1, pp2x1, pp3x1, pp4x1, mB1, mC1, x1, x2, hW.trans (x4.mono hW.size)⟩
      have EE : Hid (∀ W (pp1x1 pp2x1 pp3x1 pp4x1 : Nat) (mB1 mC1 : Nat → Option Addr), LR W 0 W.heap.size (some ⟨pp1x1, 0, none⟩) rs1.length (gi (fl rs1)) (some ⟨pp2x1, 0, none⟩) tn1 tx1 (some ⟨pp3x1, 0, none⟩) ln1 lo1 mB1 (fun i => (lx1 i).length) (fun i => (lx1 i).length) (fun i k => gi (lx1 i) k) (some ⟨pp4x1, 0, none⟩) cn1 mC1 (fun i => (cx1 i).length) (fun i => (cx1 i).length) (fun i k => gi (cx1 i) k) → Below w9.heap.size w9 W → Calls Try.prog 19 #[.agg #[.int .i64 b1, .slice (some ⟨px1, 0, none⟩) rs1.length rs1.length, .slice (some ⟨px2, 0, none⟩) tn1 tn1, .slice (some ⟨px3, 0, none⟩) ln1 ln1, .slice (some ⟨px4, 0, none⟩) cn1 cn1], .agg #[.int .i64 b1, .slice (some ⟨pp1x1, 0, none⟩) rs1.length rs1.length, .slice (some ⟨pp2x1, 0, none⟩) tn1 tn1, .slice (some ⟨pp3x1, 0, none⟩) ln1 ln1, .slice (some ⟨pp4x1, 0, none⟩) cn1 cn1]] W fun e w' => e = .returned (.bool true) ∧ Below w9.heap.size w9 w') := fun W pp1x1 pp2x1 pp3x1 pp4x1 mB1 mC1 hl hW => by
        have hx := (XRR.out W (R7w.out W hW))
        refine (eqLib_same 0 W.heap.size 0 W.heap.size b1 _ _ _ _ _ _ _ _ _ _ _ _ _ _ _ _ _ _ _ _ _ _ _ _ _ _ _ _ _ _ _ _ _ _ _ W D1.out.1 D1.out.2.1 D1.out.2.2.1.1 D1.out.2.2.1.2 D1.out.2.2.2.1 D1.out.2.2.2.2 hx hl).mono fun e w' ⟨x1, x2⟩ => ⟨x1, hW.trans (x2.mono hW.size)⟩
      have na1 := Lib.hid R10.out
      go_region_held3 (fun W => (W.cell? ⟨w.heap.size, 0, none⟩ = some (.int .i64 b1) ∧ W.cell? ⟨w.heap.size, 1, none⟩ = some (.slice R1 rs1.length rc1) ∧ W.cell? ⟨w.heap.size, 2, none⟩ = some (.slice T1 tn1 tc1) ∧ W.cell? ⟨w.heap.size, 3, none⟩ = some (.slice L1 ln1 lc1) ∧ W.cell? ⟨w.heap.size, 4, none⟩ = some (.slice C1 cn1 cc1)) ∧ (W.cell? ⟨w6.heap.size, 0, none⟩ = some (.int .i64 b1) ∧ W.cell? ⟨w6.heap.size, 1, none⟩ = some (.slice (some ⟨px1, 0, none⟩) rs1.length rs1.length) ∧ W.cell? ⟨w6.heap.size, 2, none⟩ = some (.slice (some ⟨px2, 0, none⟩) tn1 tn1) ∧ W.cell? ⟨w6.heap.size, 3, none⟩ = some (.slice (some ⟨px3, 0, none⟩) ln1 ln1) ∧ W.cell? ⟨w6.heap.size, 4, none⟩ = some (.slice (some ⟨px4, 0, none⟩) cn1 cn1)) ∧ Below w9.heap.size w9 W) (first | with_reducible exact KH.out _ (by assumption) | exact KH.out _ (Below.drew na1.out)) (first | (go_at_call 17; with_reducible refine (TT.out _ (by go_split_ands; assumption)).mono ?_; rintro e w' ⟨pp1x1, pp2x1, pp3x1, pp4x1, mB1, mC1, rfl, hLQ, hb9⟩) | (go_at_call 19; with_reducible refine (EE.out _ _ _ _ _ _ _ hLQ (by go_split_ands; assumption)).mono ?_; rintro e w' ⟨rfl, hb9⟩))
      all_goals (go_wp2_with fail; go_meet; exact ⟨rfl, by assumption⟩)
  case rest =>
    obtain ⟨rfl, hbw⟩ := hcut
    obtain ⟨w11, hw11⟩ : ∃ w11, w11 = wc := ⟨_, rfl⟩
    subst hw11
    have R11 := Lib.hid hbw
    clear hbw R10 XRR
    obtain ⟨x0, x1, x2, x3, x4⟩ := XS.out w11 (R7w.out _ R11.out)
    go_wp2_with fail
    refine (MK.out w11 (R7w.out _ R11.out)).mono ?_
    rintro e w12 ⟨M, rfl, ho⟩
    have O12 := Lib.hid ho
    clear ho x0 x1 x2 x3 x4 MK
    -- behind the marks on the library
    have G12 : Hid (w12.heap[w8.heap.size]? = some (.cells #[.int .i64 q, .slice A1 nq c1] 59 (0, 0)) ∧ Mine w12 w7.heap.size w8.heap.size 2 A1 nq (fun k => .int .i64 (gi qs k))) := by
      obtain ⟨hg, hm⟩ := GS.out w11 R11.out
      have z7 := Z57.out; have z9 := Z79.out; have s11 := R11.out.size
      exact ⟨(O12.out.block (by omega) (.inr (by omega))).trans hg, hm.only O12.out (by omega) (.inr (by omega))⟩
    have R12 : Hid (Below w5.heap.size w5 w12) := (R5w.out _ (R7w.out _ R11.out)).trans (O12.out.1.mono (by omega))
    have Z12 : Hid (w9.heap.size ≤ w12.heap.size) := Nat.le_trans R11.out.size O12.out.1.size
    have hM : ¬ ((M : Int) < 0) := by omega
    clear O12 R11 GS XS R7w R5w
    obtain ⟨⟨y0, y1⟩, hs0⟩ := W0.out w12 R12.out
    have z0 := cell_of_row w12 _ 0 _ _ _ G12.out.1; have z1 := cell_of_row w12 _ 1 _ _ _ G12.out.1
    simp at z0 z1
    have S0 := Lib.hid hs0
    clear hs0
    go_wp2_with fail
    refine (eqIntsResult_same _ _ _ _ A1 A0 nq c1 c0 q (gi qs) w12 (by have := NL.out; omega) G12.out.2.sl S0.out).mono ?_
    rintro e w13 ⟨rfl, hb⟩
    have G13 : Hid (w13.heap[w8.heap.size]? = some (.cells #[.int .i64 q, .slice A1 nq c1] 59 (0, 0)) ∧ Mine w13 w7.heap.size w8.heap.size 2 A1 nq (fun k => .int .i64 (gi qs k))) := by
      have z9 := Z79.out; have z12 := Z12.out
      exact ⟨(hb.block _ (by omega)).trans G12.out.1, G12.out.2.below hb (by omega)⟩
    have R13 := Lib.hid (R12.out.trans (hb.mono R12.out.size))
    have Z13 : Hid (w9.heap.size ≤ w13.heap.size) := Nat.le_trans Z12.out hb.size
    clear hb y0 y1 z0 z1 S0 G12 R12 Z12
    have z0 := cell_of_row w13 _ 0 _ _ _ G13.out.1; have z1 := cell_of_row w13 _ 1 _ _ _ G13.out.1
    simp at z0 z1
    go_wp2_with fail
    refine (markIntsResult_any w7.heap.size w8.heap.size A1 nq c1 q _ 1 w13 (by have := NL.out; omega) (by omega) (by have := Z79.out; have := Z13.out; omega) (fun k _ => ⟨_, rfl⟩) G13.out.2 (by have := Z79.out; have := Z13.out; omega)).mono ?_
    rintro e w14 ⟨rfl, hm, ho⟩
    have G14 : Hid (∀ W, Below w14.heap.size w14 W → W.heap[w8.heap.size]? = some (.cells #[.int .i64 q, .slice A1 nq c1] 59 (0, 0)) ∧ Sl W w7.heap.size w8.heap.size A1 nq (fun k => .int .i64 ((1 + k : Nat) : Int))) := fun W hW => by
      have z9 := Z79.out; have z13 := Z13.out; have s14 := ho.1.size
      exact ⟨((hW.block _ (by omega)).trans (ho.block (by omega) (.inr (by omega)))).trans G13.out.1, hm.sl.below hW (by omega)⟩
    have R14 := Lib.hid (R13.out.trans (ho.1.mono (by have := Z57.out; have := Z79.out; omega)))
    have R14w : Hid (∀ W, Below w14.heap.size w14 W → Below w5.heap.size w5 W) := fun W hW => R14.out.trans (hW.mono R14.out.size)
    clear hm ho z0 z1 G13 Z13 R13
    obtain ⟨hg, hs⟩ := G14.out w14 (Below.refl _ _)
    have HS := Lib.hid hs
    have z0 := cell_of_row w14 _ 0 _ _ _ hg; have z1 := cell_of_row w14 _ 1 _ _ _ hg
    simp at z0 z1
    clear hg hs
    go_wp2_with fail
    refine (heldIntsResult_any _ _ A1 nq c1 q 1 w14 (by have := NL.out; omega) (by omega) HS.out).mono ?_
    rintro e w15 ⟨rfl, hb⟩
    have R15 := Lib.hid hb
    clear hb z0 z1 HS
    have hm0 : ¬ (((1 + nq : Nat) : Int) < 0) := by omega
    obtain ⟨r0, r1, r2, r3, r4⟩ := KS.out w15 (R1w.out _ (R14w.out _ R15.out))
    go_wp2_with fail
    refine (TA.out w15 (R1w.out _ (R14w.out _ R15.out))).mono ?_
    rintro e w16 ⟨pp1x1, pp2x1, pp3x1, pp4x1, mB1, mC1, rfl, hLA, _, hbb⟩
    have LA16 := Lib.hid hLA
    have R16 := Lib.hid (R15.out.trans (hbb.mono R15.out.size))
    clear hLA hbb r0 r1 r2 r3 r4 R15
    go_wp2_with fail
    refine (IP.out w16 _ _ _ _ _ _ LA16.out).mono ?_
    rintro e w17 ⟨A2, c2, rfl, hO2, hbb⟩
    have O2 := Lib.hid hO2
    have R17 := Lib.hid (R16.out.trans (hbb.mono R16.out.size))
    clear hO2 hbb LA16
    obtain ⟨w18, hw18⟩ : ∃ w18, w18 = w17.alloc (.cells #[.int .i64 q, .slice A2 nq c2] 59) := ⟨_, rfl⟩
    have K18 : Hid (w18.heap[w17.heap.size]? = some (.cells #[.int .i64 q, .slice A2 nq c2] 59 (0, 0))) := by show _ = _; rw [hw18]; exact heap_alloc_new w17 _
    have BN18 : Hid (Below w17.heap.size w17 w18) := by rw [hw18]; exact below_new w17 _
    have HW := Lib.hid hw18
    clear hw18
    go_upto_region 25 with (fail)
    rw [← HW.out]
    clear HW
    have M2 := Lib.hid ((or_mine7 O2.out).sl.below BN18.out (Nat.le_refl _))
    have R18 := Lib.hid (R17.out.trans (BN18.out.mono R17.out.size))
    obtain ⟨⟨y0, y1⟩, hs0⟩ := W0.out w18 (R14w.out _ R18.out)
    have S0 := Lib.hid hs0
    have z0 := cell_of_row w18 _ 0 _ _ _ K18.out; have z1 := cell_of_row w18 _ 1 _ _ _ K18.out
    simp at z0 z1
    clear hs0 O2 R17 R16
    go_wp2_with fail
    refine (eqIntsResult_same _ _ _ _ A2 A0 nq c2 c0 q (gi qs) w18 (by have := NL.out; omega) M2.out S0.out).mono ?_
    rintro e w19 ⟨rfl, hb⟩
    have R19 := Lib.hid (R18.out.trans (hb.mono R18.out.size))
    clear hb y0 y1 z0 z1 S0 M2 K18 BN18 R18
    obtain ⟨hg, hs⟩ := G14.out w19 R19.out
    have HS := Lib.hid hs
    have z0 := cell_of_row w19 _ 0 _ _ _ hg; have z1 := cell_of_row w19 _ 1 _ _ _ hg
    simp at z0 z1
    clear hg hs
    go_wp2_with fail
    refine (heldIntsResult_any _ _ A1 nq c1 q 1 w19 (by have := NL.out; omega) (by omega) HS.out).mono ?_
    rintro e w20 ⟨rfl, hb⟩
    have R20 := Lib.hid (R19.out.trans (hb.mono R19.out.size))
    clear hb z0 z1 HS
    go_wp2
    go_ret
    exact ⟨rfl, FIN.out _ (R1w.out _ (R14w.out _ R20.out))⟩

end Go.Proofs.Ytaemegkdmbhpnaa
