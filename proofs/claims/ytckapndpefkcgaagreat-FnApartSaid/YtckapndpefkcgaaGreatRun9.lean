/-
  The program's runOf and RunKernel. No conditions beyond that the events can be read.
-/
import Derived.Test.YtckapndpefkcgaaGreatImpl3t
import Derived.Test.YtckapndpefkcgaaGreatNew3
set_option maxHeartbeats 1000000
namespace Go.Proofs.YtckapndpefkcgaaGreat
open Go.RowKit
set_option maxRecDepth 100000

def OAns (mm : Int) (n : Nat) (w : World) (e : Ending) (w' : World) : Prop :=
  (ask3 mm n ≠ 0 → e = .returned (.agg #[.int .i64 (ask3 mm n), .slice none 0 0, .slice none 0 0, .slice none 0 0, .int .i64 0, .int .i64 0, .slice none 0 0, .slice none 0 0])) ∧
  (ask3 mm n = 0 → ∃ p : Kp, e = .returned (.agg #[.int .i64 0, .slice p.A1 p.n1 p.c1, .slice p.A2 4 p.c2, .slice p.A3 4 p.c3, .int .i64 (new3 mm).tick, .int .i64 (new3 mm).run, .slice none 0 0, .slice none 0 0]) ∧ KOwn w' p (new3 mm) ∧ 1 ≤ p.n1 ∧ (w.heap.size ≤ p.g1 ∧ w.heap.size ≤ p.g2 ∧ w.heap.size ≤ p.g3)) ∧
  Below w.heap.size w w' ∧ w.heap.size < w'.heap.size

set_option maxHeartbeats 16000000 in
theorem runOf_any (mm : Int) (A : Option Addr) (n c : Nat) (w : World) (hn : n ≤ 9223372036854775807) :
    Calls Tryz.prog 57 #[.int .i64 mm, .slice A n c] w (OAns mm n w) := by
  obtain ⟨w1, hw1⟩ : ∃ w1, w1 = w.alloc (.cells #[.int .i64 0, .slice none 0 0, .slice none 0 0, .slice none 0 0, .int .i64 0, .int .i64 0, .slice none 0 0, .slice none 0 0] 41) := ⟨_, rfl⟩
  have K1 : Hid (w1.heap[w.heap.size]? = some (.cells #[.int .i64 0, .slice none 0 0, .slice none 0 0, .slice none 0 0, .int .i64 0, .int .i64 0, .slice none 0 0, .slice none 0 0] 41 (0, 0))) := by show _ = _; rw [hw1]; exact heap_alloc_new w _
  have B1 : Hid (Below w.heap.size w w1) := by rw [hw1]; exact below_new w _
  have Z1 : Hid (w1.heap.size = w.heap.size + 1) := by show _ = _; rw [hw1]; simp
  have NK := Lib.hid (implNewKernel_any mm w1)
  obtain ⟨r, hr⟩ : ∃ r, r = nk mm := ⟨_, rfl⟩
  rw [← hr] at NK
  have HR := Lib.hid hr
  obtain ⟨q, K0⟩ := r
  have HN := Lib.hid hn
  have HW1 := Lib.hid hw1
  clear hw1 hr hn
  go_enter Tryz.func57, Tryz.ntmps57
  go_upto_region 1 with (fail)
  rw [← HW1.out]
  clear HW1
  go_wp2_with fail
  refine NK.out.mono ?_
  rintro e w2 ⟨pr, rfl, ho, hb⟩
  have ho : ROwn w2 w1.heap.size w2.heap.size pr K0 [] := ho
  have B12 := Lib.hid hb
  unfold Rp.val
  obtain ⟨w3, hw3⟩ : ∃ w3, w3 = w2.alloc (.cells #[.int .i64 q, .slice pr.A1 pr.n1 pr.c1, .slice pr.A2 pr.n2 pr.c2, .slice pr.A3 pr.n3 pr.c3, .int .i64 K0.tick, .int .i64 K0.run, .slice pr.A4 pr.n4 pr.c4] 61) := ⟨_, rfl⟩
  obtain ⟨g, hg⟩ : ∃ g, g = w2.heap.size := ⟨_, rfl⟩
  have G3 : Hid (w3.heap[g]? = some (.cells #[.int .i64 q, .slice pr.A1 pr.n1 pr.c1, .slice pr.A2 pr.n2 pr.c2, .slice pr.A3 pr.n3 pr.c3, .int .i64 K0.tick, .int .i64 K0.run, .slice pr.A4 pr.n4 pr.c4] 61 (0, 0))) := by show _ = _; rw [hw3, hg]; exact heap_alloc_new w2 _
  have BN3 : Hid (Below w2.heap.size w2 w3) := by rw [hw3]; exact below_new w2 _
  have Z3 : Hid (w3.heap.size = g + 1 ∧ g = w2.heap.size) := by show _ ∧ _; rw [hw3, hg]; simp
  have B13 := Lib.hid (B12.out.trans (BN3.out.mono B12.out.size))
  have K3 := Lib.hid ((B13.out.block w.heap.size (by have := Z1.out; omega)).trans K1.out)
  have B3 := Lib.hid (B1.out.trans (B13.out.mono (by have := Z1.out; omega)))
  have PO := Lib.hid ho
  have HW3 := Lib.hid hw3; have HG := Lib.hid hg
  clear hb ho hw3 hg NK
  go_upto_region 2 with (fail)
  rw [← HW3.out, ← HG.out]
  clear HW3 HG
  have g3k := G3.out
  have g0 := cell_of_row w3 _ 0 _ _ _ g3k; have g1 := cell_of_row w3 _ 1 _ _ _ g3k; have g2 := cell_of_row w3 _ 2 _ _ _ g3k; have g3 := cell_of_row w3 _ 3 _ _ _ g3k; have g4 := cell_of_row w3 _ 4 _ _ _ g3k; have g5 := cell_of_row w3 _ 5 _ _ _ g3k; have g6 := cell_of_row w3 _ 6 _ _ _ g3k
  have hk3 := K3.out
  have r0 := cell_of_row w3 _ 0 _ _ _ hk3; have r1 := cell_of_row w3 _ 1 _ _ _ hk3; have r2 := cell_of_row w3 _ 2 _ _ _ hk3; have r3 := cell_of_row w3 _ 3 _ _ _ hk3; have r4 := cell_of_row w3 _ 4 _ _ _ hk3; have r5 := cell_of_row w3 _ 5 _ _ _ hk3; have r6 := cell_of_row w3 _ 6 _ _ _ hk3; have r7 := cell_of_row w3 _ 7 _ _ _ hk3
  have f0 := frozen_of_row w3 _ 0 _ _ hk3; have f1 := frozen_of_row w3 _ 1 _ _ hk3; have f2 := frozen_of_row w3 _ 2 _ _ hk3; have f3 := frozen_of_row w3 _ 3 _ _ hk3; have f4 := frozen_of_row w3 _ 4 _ _ hk3; have f5 := frozen_of_row w3 _ 5 _ _ hk3; have f6 := frozen_of_row w3 _ 6 _ _ hk3; have f7 := frozen_of_row w3 _ 7 _ _ hk3
  simp at g0 g1 g2 g3 g4 g5 g6 r0 r1 r2 r3 r4 r5 r6 r7
  clear g3k hk3
  have z3 : w.heap.size + 1 ≤ w3.heap.size := by have := Z1.out; have := B13.out.size; omega
  have Z3W := Lib.hid z3
  clear z3
  by_cases h0 : q = 0
  case neg =>
    have y : (q != 0) = true := by simp [h0]
    have EA : Hid (ask3 mm n = q ∧ ask3 mm n ≠ 0) := by
      show _ ∧ _
      have hr := HR.out
      unfold nk at hr
      by_cases h1 : (new1 mm).1 = 0
      · rw [if_neg (by simp [h1])] at hr
        exact absurd (congrArg Prod.fst hr) h0
      · rw [if_pos h1] at hr
        have e : q = (new1 mm).1 := congrArg Prod.fst hr
        unfold ask3
        rw [if_pos h1]
        exact ⟨e.symm, h1⟩
    go_wp2
    refine bodyPost_ret (results_cell_row rfl _ _ _ _ _ (0, 0) _ rfl (heap_setCell_same _ _ 7 _ _ _ (heap_setCell_same _ _ 6 _ _ _ (heap_setCell_same _ _ 5 _ _ _ (heap_setCell_same _ _ 4 _ _ _ (heap_setCell_same _ _ 3 _ _ _ (heap_setCell_same _ _ 2 _ _ _ (heap_setCell_same _ _ 1 _ _ _ (heap_setCell_same _ _ 0 _ _ _ K3.out)))))))) Tryz.underlying41 rfl (by kernel_rfl)) rfl ?_
    exact ⟨fun _ => by rw [EA.out.1]; rfl, fun hh => absurd hh EA.out.2, ((((((((B3.out.setCell (p := ⟨w.heap.size, 0, none⟩) (by simp) _).setCell (p := ⟨w.heap.size, 1, none⟩) (by simp) _).setCell (p := ⟨w.heap.size, 2, none⟩) (by simp) _).setCell (p := ⟨w.heap.size, 3, none⟩) (by simp) _).setCell (p := ⟨w.heap.size, 4, none⟩) (by simp) _).setCell (p := ⟨w.heap.size, 5, none⟩) (by simp) _).setCell (p := ⟨w.heap.size, 6, none⟩) (by simp) _).setCell (p := ⟨w.heap.size, 7, none⟩) (by simp) _), by simp; have := Z3W.out; omega⟩
  subst h0
  have E0 : Hid ((new1 mm).1 = 0 ∧ K0 = new3 mm) := by
    show _ ∧ _
    have hr := HR.out
    unfold nk at hr
    by_cases h1 : (new1 mm).1 = 0
    · rw [if_neg (by simp [h1])] at hr
      exact ⟨h1, congrArg Prod.snd hr⟩
    · rw [if_pos h1] at hr
      exact absurd (congrArg Prod.fst hr).symm h1
  by_cases h4 : 400 < n
  · have h5 : (400 : Int) < n := by omega
    have EA : Hid (ask3 mm n = 2) := by show _ = _; unfold ask3; rw [if_neg (by simp [E0.out.1]), if_pos h4]
    clear h4
    go_wp2
    refine bodyPost_ret (results_cell_row rfl _ _ _ _ _ (0, 0) _ rfl (heap_setCell_same _ _ 7 _ _ _ (heap_setCell_same _ _ 6 _ _ _ (heap_setCell_same _ _ 5 _ _ _ (heap_setCell_same _ _ 4 _ _ _ (heap_setCell_same _ _ 3 _ _ _ (heap_setCell_same _ _ 2 _ _ _ (heap_setCell_same _ _ 1 _ _ _ (heap_setCell_same _ _ 0 _ _ _ K3.out)))))))) Tryz.underlying41 rfl (by kernel_rfl)) rfl ?_
    exact ⟨fun _ => by rw [EA.out]; rfl, fun hh => absurd hh (by rw [EA.out]; decide), ((((((((B3.out.setCell (p := ⟨w.heap.size, 0, none⟩) (by simp) _).setCell (p := ⟨w.heap.size, 1, none⟩) (by simp) _).setCell (p := ⟨w.heap.size, 2, none⟩) (by simp) _).setCell (p := ⟨w.heap.size, 3, none⟩) (by simp) _).setCell (p := ⟨w.heap.size, 4, none⟩) (by simp) _).setCell (p := ⟨w.heap.size, 5, none⟩) (by simp) _).setCell (p := ⟨w.heap.size, 6, none⟩) (by simp) _).setCell (p := ⟨w.heap.size, 7, none⟩) (by simp) _), by simp; have := Z3W.out; omega⟩
  have h5 : ¬ ((400 : Int) < n) := by omega
  have EA : Hid (ask3 mm n = 0) := by show _ = _; unfold ask3; rw [if_neg (by simp [E0.out.1]), if_neg h4]
  obtain ⟨sk0, hlen, hm1, hm2⟩ := sk_new E0.out.1
  have PN : Hid (pr.n2 = 4 ∧ pr.n3 = 4 ∧ 1 ≤ pr.n1) := by
    have l1 := PO.out.l1; have l2 := PO.out.l2; have l3 := PO.out.l3
    have e0 := E0.out.2
    subst e0
    have k2 := sk0.l2; have k3 := sk0.l3
    obtain ⟨v1, _⟩ := vf_zero sk0.v
    show _ ∧ _ ∧ _
    omega
  have SK0 := Lib.hid sk0
  clear h4 sk0 hlen hm1 hm2 HR
  obtain ⟨A1', n1', c1', A2', n2', c2', A3', n3', c3', An, nn, cn, g1', g2', g3', g4'⟩ := pr
  obtain ⟨hn2, hn3, hn1⟩ := PN.out
  simp only at hn2 hn3 hn1
  subst hn2 hn3
  have HN1 := Lib.hid hn1
  clear hn1 PN
  go_wp2
  refine bodyPost_ret (results_cell_row rfl _ _ _ _ _ (0, 0) _ rfl (heap_setCell_same _ _ 7 _ _ _ (heap_setCell_same _ _ 6 _ _ _ (heap_setCell_same _ _ 5 _ _ _ (heap_setCell_same _ _ 4 _ _ _ (heap_setCell_same _ _ 3 _ _ _ (heap_setCell_same _ _ 2 _ _ _ (heap_setCell_same _ _ 1 _ _ _ (heap_setCell_same _ _ 0 _ _ _ K3.out)))))))) Tryz.underlying41 rfl (by kernel_rfl)) rfl ?_
  refine ⟨fun hh => absurd EA.out hh, fun _ => ⟨⟨A1', n1', c1', A2', c2', A3', c3', g1', g2', g3'⟩, by rw [← E0.out.2]; rfl, ?_, HN1.out, ?_⟩, ((((((((B3.out.setCell (p := ⟨w.heap.size, 0, none⟩) (by simp) _).setCell (p := ⟨w.heap.size, 1, none⟩) (by simp) _).setCell (p := ⟨w.heap.size, 2, none⟩) (by simp) _).setCell (p := ⟨w.heap.size, 3, none⟩) (by simp) _).setCell (p := ⟨w.heap.size, 4, none⟩) (by simp) _).setCell (p := ⟨w.heap.size, 5, none⟩) (by simp) _).setCell (p := ⟨w.heap.size, 6, none⟩) (by simp) _).setCell (p := ⟨w.heap.size, 7, none⟩) (by simp) _), by simp; have := Z3W.out; omega⟩
  · have po := PO.out
    have b1 := po.b1; have b2 := po.b2; have b3 := po.b3
    have zz := Z1.out
    simp only at b1 b2 b3
    have e0 := E0.out.2
    have own : KOwn w2 ⟨A1', n1', c1', A2', c2', A3', c3', g1', g2', g3'⟩ K0 := ⟨po.l1, by rw [e0]; exact SK0.out.l2, by rw [e0]; exact SK0.out.l3, po.nil1, po.m1, po.m2, po.m3, po.d12 (show n1' ≠ 0 by have := HN1.out; omega) (show (4 : Nat) ≠ 0 by decide), po.d13 (show n1' ≠ 0 by have := HN1.out; omega) (show (4 : Nat) ≠ 0 by decide), po.d23 (show (4 : Nat) ≠ 0 by decide) (show (4 : Nat) ≠ 0 by decide)⟩
    rw [e0] at own
    exact own.keepB ((Below.heap_setCell _ ⟨w.heap.size, 7, none⟩ _ _ (show g1' ≠ w.heap.size by omega)).trans ((Below.heap_setCell _ ⟨w.heap.size, 6, none⟩ _ _ (show g1' ≠ w.heap.size by omega)).trans ((Below.heap_setCell _ ⟨w.heap.size, 5, none⟩ _ _ (show g1' ≠ w.heap.size by omega)).trans ((Below.heap_setCell _ ⟨w.heap.size, 4, none⟩ _ _ (show g1' ≠ w.heap.size by omega)).trans ((Below.heap_setCell _ ⟨w.heap.size, 3, none⟩ _ _ (show g1' ≠ w.heap.size by omega)).trans ((Below.heap_setCell _ ⟨w.heap.size, 2, none⟩ _ _ (show g1' ≠ w.heap.size by omega)).trans ((Below.heap_setCell _ ⟨w.heap.size, 1, none⟩ _ _ (show g1' ≠ w.heap.size by omega)).trans ((Below.heap_setCell _ ⟨w.heap.size, 0, none⟩ _ _ (show g1' ≠ w.heap.size by omega)).trans (BN3.out.block _ b1.2))))))))) ((Below.heap_setCell _ ⟨w.heap.size, 7, none⟩ _ _ (show g2' ≠ w.heap.size by omega)).trans ((Below.heap_setCell _ ⟨w.heap.size, 6, none⟩ _ _ (show g2' ≠ w.heap.size by omega)).trans ((Below.heap_setCell _ ⟨w.heap.size, 5, none⟩ _ _ (show g2' ≠ w.heap.size by omega)).trans ((Below.heap_setCell _ ⟨w.heap.size, 4, none⟩ _ _ (show g2' ≠ w.heap.size by omega)).trans ((Below.heap_setCell _ ⟨w.heap.size, 3, none⟩ _ _ (show g2' ≠ w.heap.size by omega)).trans ((Below.heap_setCell _ ⟨w.heap.size, 2, none⟩ _ _ (show g2' ≠ w.heap.size by omega)).trans ((Below.heap_setCell _ ⟨w.heap.size, 1, none⟩ _ _ (show g2' ≠ w.heap.size by omega)).trans ((Below.heap_setCell _ ⟨w.heap.size, 0, none⟩ _ _ (show g2' ≠ w.heap.size by omega)).trans (BN3.out.block _ b2.2))))))))) ((Below.heap_setCell _ ⟨w.heap.size, 7, none⟩ _ _ (show g3' ≠ w.heap.size by omega)).trans ((Below.heap_setCell _ ⟨w.heap.size, 6, none⟩ _ _ (show g3' ≠ w.heap.size by omega)).trans ((Below.heap_setCell _ ⟨w.heap.size, 5, none⟩ _ _ (show g3' ≠ w.heap.size by omega)).trans ((Below.heap_setCell _ ⟨w.heap.size, 4, none⟩ _ _ (show g3' ≠ w.heap.size by omega)).trans ((Below.heap_setCell _ ⟨w.heap.size, 3, none⟩ _ _ (show g3' ≠ w.heap.size by omega)).trans ((Below.heap_setCell _ ⟨w.heap.size, 2, none⟩ _ _ (show g3' ≠ w.heap.size by omega)).trans ((Below.heap_setCell _ ⟨w.heap.size, 1, none⟩ _ _ (show g3' ≠ w.heap.size by omega)).trans ((Below.heap_setCell _ ⟨w.heap.size, 0, none⟩ _ _ (show g3' ≠ w.heap.size by omega)).trans (BN3.out.block _ b3.2)))))))))
  · have po := PO.out
    have b1 := po.b1; have b2 := po.b2; have b3 := po.b3
    have zz := Z1.out
    simp only at b1 b2 b3 ⊢
    omega

end Go.Proofs.YtckapndpefkcgaaGreat
