/-
  The program's schedule made of a map, and its SchedFault. No conditions beyond that the list can be read.
-/
import Derived.Test.YtckapndpefkcgaaImpl5b
set_option maxHeartbeats 1000000
namespace Go.Proofs.Ytckapndpefkcgaa
open Go.RowKit
set_option maxRecDepth 100000

theorem OR.setOther {t t' : TypeId} {m : Nat} {w : World} {base n c s : Nat} {A : Option Addr} {hs : List Int} {cs : Array Value} (h : OR t m w base A n c hs) (hk : w.heap[s]? = some (.cells cs t' (0, 0))) (ht : t ≠ t') (j : Nat) (v : Value) :
    OR t m (w.setCell ⟨s, j, none⟩ v) base A n c hs := by
  refine h.keepAll fun g e => Below.heap_setCell _ _ _ _ ?_
  subst e
  intro e
  rcases h.2 with ⟨h0, _⟩ | ⟨g', cap', cur, h0, _, hg, _⟩
  · cases h0
  · injection h0 with h0 _ _
    injection h0 with h0
    injection h0 with h0
    subst h0
    have e' : g = s := e
    subst e'
    rw [hk] at hg
    injection hg with hg
    injection hg with _ hg _
    exact ht hg.symm
set_option maxHeartbeats 2000000 in
theorem sched_any (r : Nat) (M : Int → Option R3) (b : Int) (w : World) (hM : RM w r M) :
    Calls Try.prog 86 #[.map (some r), .int .i64 b] w fun e w' => ∃ A c, e = .returned (.agg #[.int .i64 (bas (upTo M 5) b), .slice A (upTo M 5).length c]) ∧ OR 52 3 w' w.heap.size A (upTo M 5).length c (fl (upTo M 5)) ∧ Below w.heap.size w w' := by
  obtain ⟨w1, hw1⟩ : ∃ w1, w1 = w.alloc (.cells #[.int .i64 0, .slice none 0 0] 43) := ⟨_, rfl⟩
  have K1 : Hid (w1.heap[w.heap.size]? = some (.cells #[.int .i64 0, .slice none 0 0] 43 (0, 0))) := by show _ = _; rw [hw1]; exact heap_alloc_new w _
  have B1 : Hid (Below w.heap.size w w1) := by rw [hw1]; exact below_new w _
  have Z1 : Hid (w1.heap.size = w.heap.size + 1) := by show _ = _; rw [hw1]; simp
  have M1 : Hid (RM w1 r M) := IM.below hM B1.out (IM.lt hM)
  have FA := Lib.hid (first_any r M w1 M1.out)
  have HL : Hid (bas (upTo M 5) b = if (lst (upTo M 5)).2 = true then (lst (upTo M 5)).1.2.2 else b) := rfl
  obtain ⟨L, hL⟩ : ∃ L, L = lst (upTo M 5) := ⟨_, rfl⟩
  rw [← hL] at FA HL
  clear hL hM
  obtain ⟨⟨f0, f1, f2⟩, bb⟩ := L
  have HW1 := Lib.hid hw1
  clear hw1
  cases bb with
  | true =>
    go_enter Try.func86, Try.ntmps86
    go_upto_region 1 with (fail)
    rw [← HW1.out]
    clear HW1
    go_wp2_with fail
    refine FA.out.mono ?_
    rintro e w2 ⟨rfl, hb2⟩
    have KX2 := Lib.hid ((hb2.block w.heap.size (by have := Z1.out; omega)).trans K1.out)
    have B2 := Lib.hid (B1.out.trans (hb2.mono (by have := Z1.out; omega)))
    have M2 := Lib.hid (IM.below M1.out hb2 (IM.lt M1.out))
    have z2 := Lib.hid (Nat.le_trans (show w.heap.size + 1 ≤ w1.heap.size by have := Z1.out; omega) hb2.size)
    unfold rv
    clear hb2
    go_wp2_with fail
    refine (rising_any r _).mono ?_
    rintro e w4 ⟨rfl, hw4⟩
    obtain ⟨w3, hw3⟩ : ∃ w3, w3 = w2.alloc (.cells #[.int .i64 f0, .int .i64 f1, .int .i64 f2] 52) := ⟨_, rfl⟩
    rw [← hw3] at hw4 ⊢
    have B3 : Below w2.heap.size w2 w3 := by rw [hw3]; exact below_new _ _
    have B4 : Below w2.heap.size w2 w4 := by rw [hw4]; exact B3.alloc (by have := B3.size; omega) _
    have X4 : w4.heap[w3.heap.size]? = some (.cells #[.map (some r)] 108 (0, 0)) := by rw [hw4]; exact heap_alloc_new w3 _
    have KX4 := Lib.hid ((B4.block w.heap.size (by have := z2.out; omega)).trans KX2.out)
    have CO := Lib.hid (collect_any w3.heap.size r M w4 (IM.below M2.out B4 (IM.lt M2.out)) X4)
    have BB4 := Lib.hid (B2.out.trans (B4.mono B2.out.size))
    have z4 := Lib.hid (Nat.le_trans z2.out B4.size)
    clear hw3 hw4 B3 B4 X4
    go_wp2_with fail
    refine CO.out.mono ?_
    rintro e w5 ⟨v, rfl, ho, hb⟩
    have OW := Lib.hid ho
    have KX5 := (hb.block w.heap.size (by have := z4.out; omega)).trans KX4.out
    have B5 := Lib.hid (BB4.out.trans (hb.mono BB4.out.size))
    have z5 := Lib.hid (Nat.le_trans z4.out hb.size)
    have c0 := cell_of_row w5 _ 0 _ _ _ KX5; have c1 := cell_of_row w5 _ 1 _ _ _ KX5
    have g0 := frozen_of_row w5 _ 0 _ _ KX5; have g1 := frozen_of_row w5 _ 1 _ _ KX5
    simp at c0 c1
    have HK5 := Lib.hid KX5
    have HV : Hid (∃ A c, v = .slice A (upTo M 5).length c) := by
      rcases OW.out.2 with ⟨rfl, h0⟩ | ⟨g', cap', cur, rfl, _⟩
      · exact ⟨none, 0, by rw [h0]⟩
      · exact ⟨_, _, rfl⟩
    obtain ⟨A, c, rfl⟩ := HV.out
    clear ho hb CO KX5 HV
    go_wp2
    refine bodyPost_ret (results_cell_row rfl _ _ _ _ _ (0, 0) _ rfl (heap_setCell_same _ _ 1 _ _ _ (heap_setCell_same _ _ 0 _ _ _ HK5.out)) Try.underlying43 rfl (by kernel_rfl)) rfl ?_
    refine ⟨A, c, by rw [HL.out]; rfl, ?_, (B5.out.setCell (p := ⟨w.heap.size, 0, none⟩) (Nat.le_refl _) _).setCell (p := ⟨w.heap.size, 1, none⟩) (Nat.le_refl _) _⟩
    exact OR.setOther (OR.setOther (OR.mono (base' := w.heap.size) OW.out (by have := z4.out; omega)) HK5.out (by decide) 0 _) (heap_setCell_same _ _ 0 _ _ _ HK5.out) (by decide) 1 _
  | false =>
    go_enter Try.func86, Try.ntmps86
    go_upto_region 1 with (fail)
    rw [← HW1.out]
    clear HW1
    go_wp2_with fail
    refine FA.out.mono ?_
    rintro e w2 ⟨rfl, hb2⟩
    have KX2 := Lib.hid ((hb2.block w.heap.size (by have := Z1.out; omega)).trans K1.out)
    have B2 := Lib.hid (B1.out.trans (hb2.mono (by have := Z1.out; omega)))
    have M2 := Lib.hid (IM.below M1.out hb2 (IM.lt M1.out))
    have z2 := Lib.hid (Nat.le_trans (show w.heap.size + 1 ≤ w1.heap.size by have := Z1.out; omega) hb2.size)
    unfold rv
    clear hb2
    go_wp2_with fail
    refine (rising_any r _).mono ?_
    rintro e w4 ⟨rfl, hw4⟩
    obtain ⟨w3, hw3⟩ : ∃ w3, w3 = w2.alloc (.cells #[.int .i64 f0, .int .i64 f1, .int .i64 f2] 52) := ⟨_, rfl⟩
    rw [← hw3] at hw4 ⊢
    have B3 : Below w2.heap.size w2 w3 := by rw [hw3]; exact below_new _ _
    have B4 : Below w2.heap.size w2 w4 := by rw [hw4]; exact B3.alloc (by have := B3.size; omega) _
    have X4 : w4.heap[w3.heap.size]? = some (.cells #[.map (some r)] 108 (0, 0)) := by rw [hw4]; exact heap_alloc_new w3 _
    have KX4 := Lib.hid ((B4.block w.heap.size (by have := z2.out; omega)).trans KX2.out)
    have CO := Lib.hid (collect_any w3.heap.size r M w4 (IM.below M2.out B4 (IM.lt M2.out)) X4)
    have BB4 := Lib.hid (B2.out.trans (B4.mono B2.out.size))
    have z4 := Lib.hid (Nat.le_trans z2.out B4.size)
    clear hw3 hw4 B3 B4 X4
    go_wp2_with fail
    refine CO.out.mono ?_
    rintro e w5 ⟨v, rfl, ho, hb⟩
    have OW := Lib.hid ho
    have KX5 := (hb.block w.heap.size (by have := z4.out; omega)).trans KX4.out
    have B5 := Lib.hid (BB4.out.trans (hb.mono BB4.out.size))
    have z5 := Lib.hid (Nat.le_trans z4.out hb.size)
    have c0 := cell_of_row w5 _ 0 _ _ _ KX5; have c1 := cell_of_row w5 _ 1 _ _ _ KX5
    have g0 := frozen_of_row w5 _ 0 _ _ KX5; have g1 := frozen_of_row w5 _ 1 _ _ KX5
    simp at c0 c1
    have HK5 := Lib.hid KX5
    have HV : Hid (∃ A c, v = .slice A (upTo M 5).length c) := by
      rcases OW.out.2 with ⟨rfl, h0⟩ | ⟨g', cap', cur, rfl, _⟩
      · exact ⟨none, 0, by rw [h0]⟩
      · exact ⟨_, _, rfl⟩
    obtain ⟨A, c, rfl⟩ := HV.out
    clear ho hb CO KX5 HV
    go_wp2
    refine bodyPost_ret (results_cell_row rfl _ _ _ _ _ (0, 0) _ rfl (heap_setCell_same _ _ 1 _ _ _ (heap_setCell_same _ _ 0 _ _ _ HK5.out)) Try.underlying43 rfl (by kernel_rfl)) rfl ?_
    refine ⟨A, c, by rw [HL.out]; rfl, ?_, (B5.out.setCell (p := ⟨w.heap.size, 0, none⟩) (Nat.le_refl _) _).setCell (p := ⟨w.heap.size, 1, none⟩) (Nat.le_refl _) _⟩
    exact OR.setOther (OR.setOther (OR.mono (base' := w.heap.size) OW.out (by have := z4.out; omega)) HK5.out (by decide) 0 _) (heap_setCell_same _ _ 0 _ _ _ HK5.out) (by decide) 1 _

end Go.Proofs.Ytckapndpefkcgaa
