/-
  The program's runOf and RunKernel. No conditions beyond that the events can be read.
-/
import Derived.Test.YtckapndpefkcgaaGreatImpl3t
import Derived.Test.YtckapndpefkcgaaGreatNew3
set_option maxHeartbeats 1000000
namespace Go.Proofs.YtckapndpefkcgaaGreat
open Go.RowKit
set_option maxRecDepth 100000

def OAns (mm : Int) (n : Nat) (w : World) (e : Ending) (w' : World) : Prop :=
  (ask3 mm n ≠ 0 → e = .returned (.agg #[.int .i64 (ask3 mm n), .slice none 0 0, .slice none 0 0, .slice none 0 0, .int .i64 0, .int .i64 0, .slice none 0 0, .slice none 0 0])) ∧
  (ask3 mm n = 0 → ∃ p : Kp, e = .returned (.agg #[.int .i64 0, .slice p.A1 p.n1 p.c1, .slice p.A2 4 p.c2, .slice p.A3 4 p.c3, .int .i64 (new3 mm).tick, .int .i64 (new3 mm).run, .slice none 0 0, .slice none 0 0]) ∧ KOwn w' p (new3 mm) ∧ 1 ≤ p.n1 ∧ (w.heap.size ≤ p.g1 ∧ w.heap.size ≤ p.g2 ∧ w.heap.size ≤ p.g3)) ∧
  Below w.heap.size w w' ∧ w.heap.size < w'.heap.size

set_option maxHeartbeats 16000000 in
theorem runOf_any (mm : Int) (A : Option Addr) (n c : Nat) (w : World) (hn : n ≤ 9223372036854775807) :
    Calls Tryz.prog 57 #[.int .i64 mm, .slice A n c] w (OAns mm n w) := by
  obtain ⟨w1, hw1⟩ : ∃ w1, w1 = w.alloc (.cells #[.int .i64 0, .slice none 0 0, .slice none 0 0, .slice none 0 0, .int .i64 0, .int .i64 0, .slice none 0 0, .slice none 0 0] 41) := ⟨_, rfl⟩
  have K1 : Hid (w1.heap[w.heap.size]? = some (.cells #[.int .i64 0, .slice none 0 0, .slice none 0 0, .slice none 0 0, .int .i64 0, .int .i64 0, .slice none 0 0, .slice none 0 0] 41 (0, 0))) := by show _ = _; rw [hw1]; exact heap_alloc_new w _
  have B1 : Hid (Below w.heap.size w w1) := by rw [hw1]; exact below_new w _
  have Z1 : Hid (w1.heap.size = w.heap.size + 1) := by show _ = _; rw [hw1]; simp
  have NK := Lib.hid (implNewKernel_any mm w1)
  obtain ⟨r, hr⟩ : ∃ r, r = nk mm := ⟨_, rfl⟩
  rw [← hr] at NK
  have HR := Lib.hid hr
  obtain ⟨q, K0⟩ := r
  have HN := Lib.hid hn
  have HW1 := Lib.hid hw1
  clear hw1 hr hn
  go_enter Tryz.func57, Tryz.ntmps57
  go_upto_region 1 with (fail)
  rw [← HW1.out]
  clear HW1
  go_wp2_with fail
  refine NK.out.mono ?_
  rintro e w2 ⟨pr, rfl, ho, hb⟩
  have ho : ROwn w2 w1.heap.size w2.heap.size pr K0 [] := ho
  have B12 := Lib.hid hb
  unfold Rp.val
  obtain ⟨w3, hw3⟩ : ∃ w3, w3 = w2.alloc (.cells #[.int .i64 q, .slice pr.A1 pr.n1 pr.c1, .slice pr.A2 pr.n2 pr.c2, .slice pr.A3 pr.n3 pr.c3, .int .i64 K0.tick, .int .i64 K0.run, .slice pr.A4 pr.n4 pr.c4] 61) := ⟨_, rfl⟩
  obtain ⟨g, hg⟩ : ∃ g, g = w2.heap.size := ⟨_, rfl⟩
  have G3 : Hid (w3.heap[g]? = some (.cells #[.int .i64 q, .slice pr.A1 pr.n1 pr.c1, .slice pr.A2 pr.n2 pr.c2, .slice pr.A3 pr.n3 pr.c3, .int .i64 K0.tick, .int .i64 K0.run, .slice pr.A4 pr.n4 pr.c4] 61 (0, 0))) := by show _ = _; rw [hw3, hg]; exact heap_alloc_new w2 _
  have BN3 : Hid (Below w2.heap.size w2 w3) := by rw [hw3]; exact below_new w2 _
  have Z3 : Hid (w3.heap.size = g + 1 ∧ g = w2.heap.size) := by show _ ∧ _; rw [hw3, hg]; simp
  have B13 := Lib.hid (B12.out.trans (BN3.out.mono B12.out.size))
  have K3 := Lib.hid ((B13.out.block w.heap.size (by have := Z1.out; omega)).trans K1.out)
  have B3 := Lib.hid (B1.out.trans (B13.out.mono (by have := Z1.out; omega)))
  have PO := Lib.hid ho
  have HW3 := Lib.hid hw3; have HG := Lib.hid hg
  clear hb ho hw3 hg NK
  go_upto_region 2 with (fail)
  rw [← HW3.out, ← HG.out]
  clear HW3 HG
  have g3k := G3.out
  have g0 := cell_of_row w3 _ 0 _ _ _ g3k; have g1 := cell_of_row w3 _ 1 _ _ _ g3k; have g2 := cell_of_row w3 _ 2 _ _ _ g3k; have g3 := cell_of_row w3 _ 3 _ _ _ g3k; have g4 := cell_of_row w3 _ 4 _ _ _ g3k; have g5 := cell_of_row w3 _ 5 _ _ _ g3k; have g6 := cell_of_row w3 _ 6 _ _ _ g3k
  have hk3 := K3.out
  have r0 := cell_of_row w3 _ 0 _ _ _ hk3; have r1 := cell_of_row w3 _ 1 _ _ _ hk3; have r2 := cell_of_row w3 _ 2 _ _ _ hk3; have r3 := cell_of_row w3 _ 3 _ _ _ hk3; have r4 := cell_of_row w3 _ 4 _ _ _ hk3; have r5 := cell_of_row w3 _ 5 _ _ _ hk3; have r6 := cell_of_row w3 _ 6 _ _ _ hk3; have r7 := cell_of_row w3 _ 7 _ _ _ hk3
  have f0 := frozen_of_row w3 _ 0 _ _ hk3; have f1 := frozen_of_row w3 _ 1 _ _ hk3; have f2 := frozen_of_row w3 _ 2 _ _ hk3; have f3 := frozen_of_row w3 _ 3 _ _ hk3; have f4 := frozen_of_row w3 _ 4 _ _ hk3; have f5 := frozen_of_row w3 _ 5 _ _ hk3; have f6 := frozen_of_row w3 _ 6 _ _ hk3; have f7 := frozen_of_row w3 _ 7 _ _ hk3
  simp at g0 g1 g2 g3 g4 g5 g6 r0 r1 r2 r3 r4 r5 r6 r7
  clear g3k hk3
  have z3 : w.heap.size + 1 ≤ w3.heap.size := by have := Z1.out; have := B13.out.size; omega
  have Z3W := Lib.hid z3
  clear z3
  by_cases h0 : q = 0
  case neg =>
    have y : (q != 0) = true := by simp [h0]
    have EA : Hid (ask3 mm n = q ∧ ask3 mm n ≠ 0) := by
      show _ ∧ _
      have hr := HR.out
      unfold nk at hr
      by_cases h1 : (new1 mm).1 = 0
      · rw [if_neg (by simp [h1])] at hr
        exact absurd (congrArg Prod.fst hr) h0
      · rw [if_pos h1] at hr
        have e : q = (new1 mm).1 := congrArg Prod.fst hr
        unfold ask3
        rw [if_pos h1]
        exact ⟨e.symm, h1⟩
    go_wp2
    refine bodyPost_ret (results_cell_row rfl _ _ _ _ _ (0, 0) _ rfl (heap_setCell_same _ _ 7 _ _ _ (heap_setCell_same _ _ 6 _ _ _ (heap_setCell_same _ _ 5 _ _ _ (heap_setCell_same _ _ 4 _ _ _ (heap_setCell_same _ _ 3 _ _ _ (heap_setCell_same _ _ 2 _ _ _ (heap_setCell_same _ _ 1 _ _ _ (heap_setCell_same _ _ 0 _ _ _ K3.out)))))))) Tryz.underlying41 rfl (by kernel_rfl)) rfl ?_
    exact ⟨fun _ => by rw [EA.out.1]; rfl, fun hh => absurd hh EA.out.2, ((((((((B3.out.setCell (p := ⟨w.heap.size, 0, none⟩) (by simp) _).setCell (p := ⟨w.heap.size, 1, none⟩) (by simp) _).setCell (p := ⟨w.heap.size, 2, none⟩) (by simp) _).setCell (p := ⟨w.heap.size, 3, none⟩) (by simp) _).setCell (p := ⟨w.heap.size, 4, none⟩) (by simp) _).setCell (p := ⟨w.heap.size, 5, none⟩) (by simp) _).setCell (p := ⟨w.heap.size, 6, none⟩) (by simp) _).setCell (p := ⟨w.heap.size, 7, none⟩) (by simp) _), by simp; have := Z3W.out; omega⟩
  subst h0
  have E0 : Hid ((new1 mm).1 = 0 ∧ K0 = new3 mm) := by
    show _ ∧ _
    have hr := HR.out
    unfold nk at hr
    by_cases h1 : (new1 mm).1 = 0
    · rw [if_neg (by simp [h1])] at hr
      exact ⟨h1, congrArg Prod.snd hr⟩
    · rw [if_pos h1] at hr
      exact absurd (congrArg Prod.fst hr).symm h1
  by_cases h4 : 400 < n
  · have h5 : (400 : Int) < n := by omega
    have EA : Hid (ask3 mm n = 2) := by show _ = _; unfold ask3; rw [if_neg (by simp [E0.out.1]), if_pos h4]
    clear h4
    go_wp2
    refine bodyPost_ret (results_cell_row rfl _ _ _ _ _ (0, 0) _ rfl (heap_setCell_same _ _ 7 _ _ _ (heap_setCell_same _ _ 6 _ _ _ (heap_setCell_same _ _ 5 _ _ _ (heap_setCell_same _ _ 4 _ _ _ (heap_setCell_same _ _ 3 _ _ _ (heap_setCell_same _ _ 2 _ _ _ (heap_setCell_same _ _ 1 _ _ _ (heap_setCell_same _ _ 0 _ _ _ K3.out)))))))) Tryz.underlying41 rfl (by kernel_rfl)) rfl ?_
    exact ⟨fun _ => by rw [EA.out]; rfl, fun hh => absurd hh (by rw [EA.out]; decide), ((((((((B3.out.setCell (p := ⟨w.heap.size, 0, none⟩) (by simp) _).setCell (p := ⟨w.heap.size, 1, none⟩) (by simp) _).setCell (p := ⟨w.heap.size, 2, none⟩) (by simp) _).setCell (p := ⟨w.heap.size, 3, none⟩) (by simp) _).setCell (p := ⟨w.heap.size, 4, none⟩) (by simp) _).setCell (p := ⟨w.heap.size, 5, none⟩) (by simp) _).setCell (p := ⟨w.heap.size, 6, none⟩) (by simp) _).setCell (p := ⟨w.heap.size, 7, none⟩) (by simp) _), by simp; have := Z3W.out; omega⟩
  have h5 : ¬ ((400 : Int) < n) := by omega
  have EA : Hid (ask3 mm n = 0) := by show _ = _; unfold ask3; rw [if_neg (by simp [E0.out.1]), if_neg h4]
  obtain ⟨sk0, hlen, hm1, hm2⟩ := sk_new E0.out.1
  have PN : Hid (pr.n2 = 4 ∧ pr.n3 = 4 ∧ 1 ≤ pr.n1) := by
    have l1 := PO.out.l1; have l2 := PO.out.l2; have l3 := PO.out.l3
    have e0 := E0.out.2
    subst e0
    have k2 := sk0.l2; have k3 := sk0.l3
    obtain ⟨v1, _⟩ := vf_zero sk0.v
    show _ ∧ _ ∧ _
    omega
  have SK0 := Lib.hid sk0
  clear h4 sk0 hlen hm1 hm2 HR
  obtain ⟨A1', n1', c1', A2', n2', c2', A3', n3', c3', An, nn, cn, g1', g2', g3', g4'⟩ := pr
  obtain ⟨hn2, hn3, hn1⟩ := PN.out
  simp only at hn2 hn3 hn1
  subst hn2 hn3
  have HN1 := Lib.hid hn1
  clear hn1 PN
  go_wp2
  refine bodyPost_ret (results_cell_row rfl _ _ _ _ _ (0, 0) _ rfl (heap_setCell_same _ _ 7 _ _ _ (heap_setCell_same _ _ 6 _ _ _ (heap_setCell_same _ _ 5 _ _ _ (heap_setCell_same _ _ 4 _ _ _ (heap_setCell_same _ _ 3 _ _ _ (heap_setCell_same _ _ 2 _ _ _ (heap_setCell_same _ _ 1 _ _ _ (heap_setCell_same _ _ 0 _ _ _ K3.out)))))))) Tryz.underlying41 rfl (by kernel_rfl)) rfl ?_
  refine ⟨fun hh => absurd EA.out hh, fun _ => ⟨⟨A1', n1', c1', A2', c2', A3', c3', g1', g2', g3'⟩, by rw [← E0.out.2]; rfl, ?_, HN1.out, ?_⟩, ((((((((B3.out.setCell (p := ⟨w.heap.size, 0, none⟩) (by simp) _).setCell (p := ⟨w.heap.size, 1, none⟩) (by simp) _).setCell (p := ⟨w.heap.size, 2, none⟩) (by simp) _).setCell (p := ⟨w.heap.size, 3, none⟩) (by simp) _).setCell (p := ⟨w.heap.size, 4, none⟩) (by simp) _).setCell (p := ⟨w.heap.size, 5, none⟩) (by simp) _).setCell (p := ⟨w.heap.size, 6, none⟩) (by simp) _).setCell (p := ⟨w.heap.size, 7, none⟩) (by simp) _), by simp; have := Z3W.out; omega⟩
  · have po := PO.out
    have b1 := po.b1; have b2 := po.b2; have b3 := po.b3
    have zz := Z1.out
    simp only at b1 b2 b3
    have e0 := E0.out.2
    have own : KOwn w2 ⟨A1', n1', c1', A2', c2', A3', c3', g1', g2', g3'⟩ K0 := ⟨po.l1, by rw [e0]; exact SK0.out.l2, by rw [e0]; exact SK0.out.l3, po.nil1, po.m1, po.m2, po.m3, po.d12 (show n1' ≠ 0 by have := HN1.out; omega) (show (4 : Nat) ≠ 0 by decide), po.d13 (show n1' ≠ 0 by have := HN1.out; omega) (show (4 : Nat) ≠ 0 by decide), po.d23 (show (4 : Nat) ≠ 0 by decide) (show (4 : Nat) ≠ 0 by decide)⟩
    rw [e0] at own
    exact own.keepB ((Below.heap_setCell _ ⟨w.heap.size, 7, none⟩ _ _ (show g1' ≠ w.heap.size by omega)).trans ((Below.heap_setCell _ ⟨w.heap.size, 6, none⟩ _ _ (show g1' ≠ w.heap.size by omega)).trans ((Below.heap_setCell _ ⟨w.heap.size, 5, none⟩ _ _ (show g1' ≠ w.heap.size by omega)).trans ((Below.heap_setCell _ ⟨w.heap.size, 4, none⟩ _ _ (show g1' ≠ w.heap.size by omega)).trans ((Below.heap_setCell _ ⟨w.heap.size, 3, none⟩ _ _ (show g1' ≠ w.heap.size by omega)).trans ((Below.heap_setCell _ ⟨w.heap.size, 2, none⟩ _ _ (show g1' ≠ w.heap.size by omega)).trans ((Below.heap_setCell _ ⟨w.heap.size, 1, none⟩ _ _ (show g1' ≠ w.heap.size by omega)).trans ((Below.heap_setCell _ ⟨w.heap.size, 0, none⟩ _ _ (show g1' ≠ w.heap.size by omega)).trans (BN3.out.block _ b1.2))))))))) ((Below.heap_setCell _ ⟨w.heap.size, 7, none⟩ _ _ (show g2' ≠ w.heap.size by omega)).trans ((Below.heap_setCell _ ⟨w.heap.size, 6, none⟩ _ _ (show g2' ≠ w.heap.size by omega)).trans ((Below.heap_setCell _ ⟨w.heap.size, 5, none⟩ _ _ (show g2' ≠ w.heap.size by omega)).trans ((Below.heap_setCell _ ⟨w.heap.size, 4, none⟩ _ _ (show g2' ≠ w.heap.size by omega)).trans ((Below.heap_setCell _ ⟨w.heap.size, 3, none⟩ _ _ (show g2' ≠ w.heap.size by omega)).trans ((Below.heap_setCell _ ⟨w.heap.size, 2, none⟩ _ _ (show g2' ≠ w.heap.size by omega)).trans ((Below.heap_setCell _ ⟨w.heap.size, 1, none⟩ _ _ (show g2' ≠ w.heap.size by omega)).trans ((Below.heap_setCell _ ⟨w.heap.size, 0, none⟩ _ _ (show g2' ≠ w.heap.size by omega)).trans (BN3.out.block _ b2.2))))))))) ((Below.heap_setCell _ ⟨w.heap.size, 7, none⟩ _ _ (show g3' ≠ w.heap.size by omega)).trans ((Below.heap_setCell _ ⟨w.heap.size, 6, none⟩ _ _ (show g3' ≠ w.heap.size by omega)).trans ((Below.heap_setCell _ ⟨w.heap.size, 5, none⟩ _ _ (show g3' ≠ w.heap.size by omega)).trans ((Below.heap_setCell _ ⟨w.heap.size, 4, none⟩ _ _ (show g3' ≠ w.heap.size by omega)).trans ((Below.heap_setCell _ ⟨w.heap.size, 3, none⟩ _ _ (show g3' ≠ w.heap.size by omega)).trans ((Below.heap_setCell _ ⟨w.heap.size, 2, none⟩ _ _ (show g3' ≠ w.heap.size by omega)).trans ((Below.heap_setCell _ ⟨w.heap.size, 1, none⟩ _ _ (show g3' ≠ w.heap.size by omega)).trans ((Below.heap_setCell _ ⟨w.heap.size, 0, none⟩ _ _ (show g3' ≠ w.heap.size by omega)).trans (BN3.out.block _ b3.2)))))))))
  · have po := PO.out
    have b1 := po.b1; have b2 := po.b2; have b3 := po.b3
    have zz := Z1.out
    simp only at b1 b2 b3 ⊢
    omega

set_option maxHeartbeats 16000000 in
theorem implRunKernel_any (lo hi : Nat) (A : Option Addr) (n c : Nat) (x : Nat → Int) (mm : Int) (w : World) (hn : n ≤ 1048576) (h : Sl w lo hi A (n * 7) (fun k => .int .i64 (x k))) :
    Calls Tryz.prog 16 #[.int .i64 mm, .slice A n c] w (RAns (rk3 mm x n) w) := by
  obtain ⟨w1, hw1⟩ : ∃ w1, w1 = w.alloc (.cells #[.int .i64 0, .slice none 0 0, .slice none 0 0, .slice none 0 0, .int .i64 0, .int .i64 0, .slice none 0 0, .slice none 0 0] 41) := ⟨_, rfl⟩
  have K1 : Hid (w1.heap[w.heap.size]? = some (.cells #[.int .i64 0, .slice none 0 0, .slice none 0 0, .slice none 0 0, .int .i64 0, .int .i64 0, .slice none 0 0, .slice none 0 0] 41 (0, 0))) := by show _ = _; rw [hw1]; exact heap_alloc_new w _
  have B1 : Hid (Below w.heap.size w w1) := by rw [hw1]; exact below_new w _
  have Z1 : Hid (w1.heap.size = w.heap.size + 1) := by show _ = _; rw [hw1]; simp
  have H := Lib.hid (h.lt.below B1.out (Nat.min_le_right _ _))
  have NK := Lib.hid (runOf_any mm A n c w1 (by omega))
  have HN := Lib.hid hn
  have HW1 := Lib.hid hw1
  clear h hw1 hn
  go_enter Tryz.func16, Tryz.ntmps16
  go_upto_region 1 with (fail)
  rw [← HW1.out]
  clear HW1
  go_wp2_with fail
  refine NK.out.mono ?_
  rintro e w2 ⟨hbad, hgood, hb, hs⟩
  have B12 := Lib.hid hb
  have S12 := Lib.hid hs
  clear hb hs NK
  by_cases h0 : ask3 mm n = 0
  case neg =>
    obtain rfl := hbad h0
    clear hbad hgood
    obtain ⟨q, hq⟩ : ∃ q, q = ask3 mm n := ⟨_, rfl⟩
    rw [← hq]
    have y : (q != 0) = true := by simp [hq, h0]
    have EA : Hid (rk3 mm x n = (q, ⟨[], [], [], 0, 0⟩, [], [])) := by show _ = _; rw [hq]; exact rk3_bad h0
    clear hq h0
    obtain ⟨w3, hw3⟩ : ∃ w3, w3 = w2.alloc (.cells #[.int .i64 q, .slice none 0 0, .slice none 0 0, .slice none 0 0, .int .i64 0, .int .i64 0, .slice none 0 0, .slice none 0 0] 41) := ⟨_, rfl⟩
    obtain ⟨g, hg⟩ : ∃ g, g = w2.heap.size := ⟨_, rfl⟩
    have G3 : Hid (w3.heap[g]? = some (.cells #[.int .i64 q, .slice none 0 0, .slice none 0 0, .slice none 0 0, .int .i64 0, .int .i64 0, .slice none 0 0, .slice none 0 0] 41 (0, 0))) := by show _ = _; rw [hw3, hg]; exact heap_alloc_new w2 _
    have BN3 : Hid (Below w2.heap.size w2 w3) := by rw [hw3]; exact below_new w2 _
    have B13 := Lib.hid (B12.out.trans (BN3.out.mono B12.out.size))
    have K3 := Lib.hid ((B13.out.block w.heap.size (by have := Z1.out; omega)).trans K1.out)
    have B3 := Lib.hid (B1.out.trans (B13.out.mono (by have := Z1.out; omega)))
    have Z3W : Hid (w.heap.size + 1 ≤ w3.heap.size) := by show _ ≤ _; have := Z1.out; have := B13.out.size; omega
    have HW3 := Lib.hid hw3; have HG := Lib.hid hg
    clear hw3 hg
    go_upto_region 2 with (fail)
    rw [← HW3.out, ← HG.out]
    clear HW3 HG
    have g3k := G3.out
    have g0 := cell_of_row w3 _ 0 _ _ _ g3k; have g1 := cell_of_row w3 _ 1 _ _ _ g3k; have g2 := cell_of_row w3 _ 2 _ _ _ g3k; have g3 := cell_of_row w3 _ 3 _ _ _ g3k; have g4 := cell_of_row w3 _ 4 _ _ _ g3k; have g5 := cell_of_row w3 _ 5 _ _ _ g3k; have g6 := cell_of_row w3 _ 6 _ _ _ g3k; have g7 := cell_of_row w3 _ 7 _ _ _ g3k
    have hk3 := K3.out
    have r0 := cell_of_row w3 _ 0 _ _ _ hk3; have r1 := cell_of_row w3 _ 1 _ _ _ hk3; have r2 := cell_of_row w3 _ 2 _ _ _ hk3; have r3 := cell_of_row w3 _ 3 _ _ _ hk3; have r4 := cell_of_row w3 _ 4 _ _ _ hk3; have r5 := cell_of_row w3 _ 5 _ _ _ hk3; have r6 := cell_of_row w3 _ 6 _ _ _ hk3; have r7 := cell_of_row w3 _ 7 _ _ _ hk3
    have f0 := frozen_of_row w3 _ 0 _ _ hk3; have f1 := frozen_of_row w3 _ 1 _ _ hk3; have f2 := frozen_of_row w3 _ 2 _ _ hk3; have f3 := frozen_of_row w3 _ 3 _ _ hk3; have f4 := frozen_of_row w3 _ 4 _ _ hk3; have f5 := frozen_of_row w3 _ 5 _ _ hk3; have f6 := frozen_of_row w3 _ 6 _ _ hk3; have f7 := frozen_of_row w3 _ 7 _ _ hk3
    simp at g0 g1 g2 g3 g4 g5 g6 g7 r0 r1 r2 r3 r4 r5 r6 r7
    clear g3k hk3
    go_wp2
    refine bodyPost_ret (results_cell_row rfl _ _ _ _ _ (0, 0) _ rfl (heap_setCell_same _ _ 7 _ _ _ (heap_setCell_same _ _ 6 _ _ _ (heap_setCell_same _ _ 5 _ _ _ (heap_setCell_same _ _ 4 _ _ _ (heap_setCell_same _ _ 3 _ _ _ (heap_setCell_same _ _ 2 _ _ _ (heap_setCell_same _ _ 1 _ _ _ (heap_setCell_same _ _ 0 _ _ _ K3.out)))))))) Tryz.underlying41 rfl (by kernel_rfl)) rfl ?_
    rw [EA.out]
    exact rans_code ((((((((B3.out.setCell (p := ⟨w.heap.size, 0, none⟩) (by simp) _).setCell (p := ⟨w.heap.size, 1, none⟩) (by simp) _).setCell (p := ⟨w.heap.size, 2, none⟩) (by simp) _).setCell (p := ⟨w.heap.size, 3, none⟩) (by simp) _).setCell (p := ⟨w.heap.size, 4, none⟩) (by simp) _).setCell (p := ⟨w.heap.size, 5, none⟩) (by simp) _).setCell (p := ⟨w.heap.size, 6, none⟩) (by simp) _).setCell (p := ⟨w.heap.size, 7, none⟩) (by simp) _) (by simp; have := Z3W.out; omega)
  obtain ⟨p0, rfl, hown, hn1, hlo⟩ := hgood h0
  have GD := Lib.hid (rk3_good (x := x) h0)
  have ALL := Lib.hid (run3_all (x := x) (sk_new GD.out.2.1).1 rfl)
  have N4 : Hid (n ≤ 400) := GD.out.2.2
  obtain ⟨w3, hw3⟩ : ∃ w3, w3 = w2.alloc (.cells #[.int .i64 0, .slice p0.A1 p0.n1 p0.c1, .slice p0.A2 4 p0.c2, .slice p0.A3 4 p0.c3, .int .i64 (new3 mm).tick, .int .i64 (new3 mm).run, .slice none 0 0, .slice none 0 0] 41) := ⟨_, rfl⟩
  obtain ⟨h, hh⟩ : ∃ h, h = w2.heap.size := ⟨_, rfl⟩
  have BN3 : Hid (Below w2.heap.size w2 w3) := by rw [hw3]; exact below_new w2 _
  have J0 : Hid (LoopI w1 w3 h p0 (new3 mm) none 0 0 [] none 0 0 []) := by
    obtain ⟨_, hx1⟩ := mine_blk hown.m1 (by omega)
    obtain ⟨_, hx2⟩ := mine_blk hown.m2 (by decide)
    obtain ⟨_, hx3⟩ := mine_blk hown.m3 (by decide)
    refine ⟨hown.keepB (BN3.out.block _ (Array.getElem?_eq_some_iff.1 hx1).1) (BN3.out.block _ (Array.getElem?_eq_some_iff.1 hx2).1) (BN3.out.block _ (Array.getElem?_eq_some_iff.1 hx3).1), hn1, ?_, OR.void _ _, OR.void _ _, (fun b e => by cases e), ⟨by have := S12.out; omega, hlo⟩, B12.out.trans (BN3.out.mono B12.out.size)⟩
    rw [hw3, hh]
    exact heap_alloc_new w2 _
  have HW3 := Lib.hid hw3; have HH := Lib.hid hh
  clear hw3 hh hbad hgood hown hn1 hlo h0
  go_upto_region 2 with (fail)
  rw [← HW3.out, ← HH.out]
  clear HW3 HH
  have jb0 := J0.out.box
  have u0 := cell_of_row w3 _ 0 _ _ _ jb0
  simp at u0
  clear jb0
  go_upto_region 5 with (fail)
  clear u0
  go_wp2_with fail
  go_loopw [17] (fun i wr => ∃ (k : Nat) (p : Kp) (A4 : Option Addr) (c4 : Nat) (A5 : Option Addr) (m c5 : Nat), k ≤ n ∧ i = .int .i64 k ∧ LoopI w1 wr h p (run3 (new3 mm) x k).1 A4 k c4 (run3 (new3 mm) x k).2.1 A5 m c5 (run3 (new3 mm) x k).2.2) (fun i _ => n - (intOf i).toNat)
  case atStart => exact ⟨0, _, none, 0, none, 0, 0, Nat.zero_le _, rfl, J0.out⟩
  case round =>
    obtain ⟨k, p, A4, c4, A5, m, c5, hk, rfl, hJ⟩ := hrel
    have J := Lib.hid hJ
    obtain ⟨hs, htk, hlc, hln⟩ := ALL.out k (by have := N4.out; omega)
    have SKk := Lib.hid hs
    have TKk := Lib.hid htk
    have LN := Lib.hid (show m ≤ 3600 by have := hJ.on.len; have := N4.out; omega)
    obtain ⟨r3, hr3⟩ : ∃ r3, r3 = run3 (new3 mm) x k := ⟨_, rfl⟩
    have NX : Hid (run3 (new3 mm) x (k + 1) = ((stp x k r3.1).2.1, r3.2.1 ++ [(stp x k r3.1).1], r3.2.2 ++ (stp x k r3.1).2.2)) := by show _ = _; rw [hr3]; rfl
    rw [← hr3] at J SKk TKk
    have HR3 := Lib.hid hr3
    clear hJ hs htk hlc hln hr3
    by_cases hlt : k < n
    · obtain ⟨b, off, rfl, h1, h2, hc⟩ := H.out.at_ (show k * 7 < n * 7 by omega)
      have hev : wr.cell? ⟨b, off + k * 7, none⟩ = some (.int .i64 (x (k * 7))) ∧ wr.cell? ⟨b, off + k * 7 + 1, none⟩ = some (.int .i64 (x (k * 7 + 1))) ∧ wr.cell? ⟨b, off + k * 7 + 2, none⟩ = some (.int .i64 (x (k * 7 + 2))) ∧ wr.cell? ⟨b, off + k * 7 + 3, none⟩ = some (.int .i64 (x (k * 7 + 3))) ∧ wr.cell? ⟨b, off + k * 7 + 4, none⟩ = some (.int .i64 (x (k * 7 + 4))) ∧ wr.cell? ⟨b, off + k * 7 + 5, none⟩ = some (.int .i64 (x (k * 7 + 5))) ∧ wr.cell? ⟨b, off + k * 7 + 6, none⟩ = some (.int .i64 (x (k * 7 + 6))) := ⟨(J.out.bw.cell (p := ⟨b, off + (k * 7), none⟩) (by have := Z1.out; simp; omega)).trans (hc (k * 7) (by omega)), (J.out.bw.cell (p := ⟨b, off + (k * 7 + 1), none⟩) (by have := Z1.out; simp; omega)).trans (hc (k * 7 + 1) (by omega)), (J.out.bw.cell (p := ⟨b, off + (k * 7 + 2), none⟩) (by have := Z1.out; simp; omega)).trans (hc (k * 7 + 2) (by omega)), (J.out.bw.cell (p := ⟨b, off + (k * 7 + 3), none⟩) (by have := Z1.out; simp; omega)).trans (hc (k * 7 + 3) (by omega)), (J.out.bw.cell (p := ⟨b, off + (k * 7 + 4), none⟩) (by have := Z1.out; simp; omega)).trans (hc (k * 7 + 4) (by omega)), (J.out.bw.cell (p := ⟨b, off + (k * 7 + 5), none⟩) (by have := Z1.out; simp; omega)).trans (hc (k * 7 + 5) (by omega)), (J.out.bw.cell (p := ⟨b, off + (k * 7 + 6), none⟩) (by have := Z1.out; simp; omega)).trans (hc (k * 7 + 6) (by omega))⟩
      obtain ⟨wa, hwa⟩ : ∃ wa, wa = wr.alloc (.cells #[.int .i64 (x (k * 7)), .int .i64 (x (k * 7 + 1)), .int .i64 (x (k * 7 + 2)), .int .i64 (x (k * 7 + 3)), .int .i64 (x (k * 7 + 4)), .int .i64 (x (k * 7 + 5)), .int .i64 (x (k * 7 + 6))] 57) := ⟨_, rfl⟩
      obtain ⟨ge, hge⟩ : ∃ ge, ge = wr.heap.size := ⟨_, rfl⟩
      have KE : wa.heap[ge]? = some (.cells #[.int .i64 (x (k * 7)), .int .i64 (x (k * 7 + 1)), .int .i64 (x (k * 7 + 2)), .int .i64 (x (k * 7 + 3)), .int .i64 (x (k * 7 + 4)), .int .i64 (x (k * 7 + 5)), .int .i64 (x (k * 7 + 6))] 57 (0, 0)) := by rw [hwa, hge]; exact heap_alloc_new wr _
      have JA : Hid (LoopI w1 wa h p r3.1 A4 k c4 r3.2.1 A5 m c5 r3.2.2) := by rw [hwa]; exact J.out.below (below_new wr _)
      have MN : Hid (Calls Tryz.prog 58 #[.pointer (some ⟨h, 0, none⟩), .agg #[.int .i64 (x (k * 7)), .int .i64 (x (k * 7 + 1)), .int .i64 (x (k * 7 + 2)), .int .i64 (x (k * 7 + 3)), .int .i64 (x (k * 7 + 4)), .int .i64 (x (k * 7 + 5)), .int .i64 (x (k * 7 + 6))]] wa fun e W' => e = .returned (.tuple #[]) ∧ ∃ (p' : Kp) (A4' : Option Addr) (c4' : Nat) (A5' : Option Addr) (m' c5' : Nat), LoopI w1 W' h p' (stp x k r3.1).2.1 A4' (k + 1) c4' (r3.2.1 ++ [(stp x k r3.1).1]) A5' m' c5' (r3.2.2 ++ (stp x k r3.1).2.2)) :=
        meetNext_any JA.out SKk.out (by have := TKk.out; have := N4.out; omega) (by have := N4.out; omega) LN.out (x (k * 7)) (x (k * 7 + 1)) (x (k * 7 + 2)) (x (k * 7 + 3)) (x (k * 7 + 4)) (x (k * 7 + 5)) (x (k * 7 + 6))
      have e0 := cell_of_row wa _ 0 _ _ _ KE; have e1 := cell_of_row wa _ 1 _ _ _ KE; have e2 := cell_of_row wa _ 2 _ _ _ KE; have e3 := cell_of_row wa _ 3 _ _ _ KE; have e4 := cell_of_row wa _ 4 _ _ _ KE; have e5 := cell_of_row wa _ 5 _ _ _ KE; have e6 := cell_of_row wa _ 6 _ _ _ KE
      simp at e0 e1 e2 e3 e4 e5 e6
      have HWA := Lib.hid hwa; have HGE := Lib.hid hge
      have z0 : (0 : Int) ≤ (k : Int) := by omega
      have z1 : (k : Int) < (n : Int) := by omega
      have hn4 : n ≤ 400 := N4.out
      obtain ⟨v0, v1, v2, v3, v4, v5, v6⟩ := hev
      clear hc hwa hge KE JA
      go_upto_region 7 with (fail)
      rw [← HWA.out, ← HGE.out]
      clear HWA HGE v0 v1 v2 v3 v4 v5 v6
      go_wp2_with fail
      refine MN.out.mono ?_
      rintro e wb ⟨rfl, p', A4', c4', A5', m', c5', hj⟩
      have JB := Lib.hid hj
      clear hj MN e0 e1 e2 e3 e4 e5 e6
      go_wp2
      go_roundw
      case rel => exact ⟨k + 1, p', A4', c4', A5', m', c5', by omega, by go_num, by rw [NX.out]; exact JB.out⟩
      case measure => simp [intOf]; omega
    · obtain rfl : k = n := by omega
      have RB := Lib.hid ((J.out.bw.block w.heap.size (by have := Z1.out; omega)).trans K1.out)
      have jb := J.out.box
      have o0 := cell_of_row wr _ 0 _ _ _ jb; have o1 := cell_of_row wr _ 1 _ _ _ jb; have o2 := cell_of_row wr _ 2 _ _ _ jb; have o3 := cell_of_row wr _ 3 _ _ _ jb; have o4 := cell_of_row wr _ 4 _ _ _ jb; have o5 := cell_of_row wr _ 5 _ _ _ jb; have o6 := cell_of_row wr _ 6 _ _ _ jb; have o7 := cell_of_row wr _ 7 _ _ _ jb
      have rb := RB.out
      have s0 := cell_of_row wr _ 0 _ _ _ rb; have s1 := cell_of_row wr _ 1 _ _ _ rb; have s2 := cell_of_row wr _ 2 _ _ _ rb; have s3 := cell_of_row wr _ 3 _ _ _ rb; have s4 := cell_of_row wr _ 4 _ _ _ rb; have s5 := cell_of_row wr _ 5 _ _ _ rb; have s6 := cell_of_row wr _ 6 _ _ _ rb; have s7 := cell_of_row wr _ 7 _ _ _ rb
      have f0 := frozen_of_row wr _ 0 _ _ rb; have f1 := frozen_of_row wr _ 1 _ _ rb; have f2 := frozen_of_row wr _ 2 _ _ rb; have f3 := frozen_of_row wr _ 3 _ _ rb; have f4 := frozen_of_row wr _ 4 _ _ rb; have f5 := frozen_of_row wr _ 5 _ _ rb; have f6 := frozen_of_row wr _ 6 _ _ rb; have f7 := frozen_of_row wr _ 7 _ _ rb
      simp at o0 s0 o1 s1 o2 s2 o3 s3 o4 s4 o5 s5 o6 s6 o7 s7
      clear jb rb
      go_wp2
      refine bodyPost_ret (results_cell_row rfl _ _ _ _ _ (0, 0) _ rfl (heap_setCell_same _ _ 7 _ _ _ (heap_setCell_same _ _ 6 _ _ _ (heap_setCell_same _ _ 5 _ _ _ (heap_setCell_same _ _ 4 _ _ _ (heap_setCell_same _ _ 3 _ _ _ (heap_setCell_same _ _ 2 _ _ _ (heap_setCell_same _ _ 1 _ _ _ (heap_setCell_same _ _ 0 _ _ _ RB.out)))))))) Tryz.underlying41 rfl (by kernel_rfl)) rfl ?_
      rw [GD.out.1, ← HR3.out]
      have lo := J.out.lo
      have zz := Z1.out
      exact rans_of (W := wr) J.out.own J.out.n1 (J.out.oc.mono (by omega)) (J.out.on.mono (by omega)) J.out.ap (by omega) (by simp; have := J.out.bw.size; omega) (by simp) (fun b cs' t hb ht => ((Below.heap_setCell _ ⟨w.heap.size, 7, none⟩ _ _ (blk_ne hb RB.out ht)).trans ((Below.heap_setCell _ ⟨w.heap.size, 6, none⟩ _ _ (blk_ne hb RB.out ht)).trans ((Below.heap_setCell _ ⟨w.heap.size, 5, none⟩ _ _ (blk_ne hb RB.out ht)).trans ((Below.heap_setCell _ ⟨w.heap.size, 4, none⟩ _ _ (blk_ne hb RB.out ht)).trans ((Below.heap_setCell _ ⟨w.heap.size, 3, none⟩ _ _ (blk_ne hb RB.out ht)).trans ((Below.heap_setCell _ ⟨w.heap.size, 2, none⟩ _ _ (blk_ne hb RB.out ht)).trans ((Below.heap_setCell _ ⟨w.heap.size, 1, none⟩ _ _ (blk_ne hb RB.out ht)).trans ((Below.heap_setCell _ ⟨w.heap.size, 0, none⟩ _ _ (blk_ne hb RB.out ht)).trans rfl))))))))) (((((((((B1.out.trans (J.out.bw.mono (by omega))).setCell (p := ⟨w.heap.size, 0, none⟩) (by simp) _).setCell (p := ⟨w.heap.size, 1, none⟩) (by simp) _).setCell (p := ⟨w.heap.size, 2, none⟩) (by simp) _).setCell (p := ⟨w.heap.size, 3, none⟩) (by simp) _).setCell (p := ⟨w.heap.size, 4, none⟩) (by simp) _).setCell (p := ⟨w.heap.size, 5, none⟩) (by simp) _).setCell (p := ⟨w.heap.size, 6, none⟩) (by simp) _).setCell (p := ⟨w.heap.size, 7, none⟩) (by simp) _)

end Go.Proofs.YtckapndpefkcgaaGreat
