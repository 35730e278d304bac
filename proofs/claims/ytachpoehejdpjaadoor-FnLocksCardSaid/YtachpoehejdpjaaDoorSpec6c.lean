/-
  The model's copy of a lock. No conditions beyond that the list can be read.
-/
import Derived.Test.YtachpoehejdpjaaDoorAns6
import Derived.Deep.RegionWith
namespace Go.Proofs.YtachpoehejdpjaaDoor
open Go.RowKit
set_option maxRecDepth 100000

set_option maxHeartbeats 2000000 in
theorem l6Copy_any (lo hi : Nat) (A : Option Addr) (n c g : Nat) (o : Int) (xs : List Int) (w : World) (hn : n ≤ 1048576) (ex : xs.length = n) (hA : A = none → c = 0) (h : Sl w lo hi A n (fun k => .int .i64 (gi xs k))) (hp : w.heap[g]? = some (.cells #[.int .i64 o, .slice A n c] 26 (0, 0))) :
    Calls Tryd.prog 37 #[.pointer (some ⟨g, 0, none⟩)] w fun e w' => ∃ A' c', e = .returned (.agg #[.int .i64 o, .slice A' n c']) ∧ OR 2 1 w' w.heap.size A' n c' xs ∧ Below w.heap.size w w' := by
  obtain ⟨w1, hw1⟩ : ∃ w1, w1 = w.alloc (.cells #[.int .i64 0, .slice none 0 0] 26) := ⟨_, rfl⟩
  have k1 : w1.heap[w.heap.size]? = some (.cells #[.int .i64 0, .slice none 0 0] 26 (0, 0)) := by rw [hw1]; exact heap_alloc_new w _
  have B1 : Hid (Below w.heap.size w w1) := by rw [hw1]; exact below_new w _
  have Z1 : Hid (w1.heap.size = w.heap.size + 1) := by show _ = _; rw [hw1]; simp
  have KS : Hid (∀ W, Below w1.heap.size w1 W → W.cell? ⟨g, 0, none⟩ = some (.int .i64 o) ∧ W.cell? ⟨g, 1, none⟩ = some (.slice A n c)) := fun W hW => by
    have hg := (Array.getElem?_eq_some_iff.1 hp).1
    have j := (hW.block g (by have := Z1.out; omega)).trans ((B1.out.block g hg).trans hp)
    exact ⟨cell_of_row W _ 0 _ _ _ j, cell_of_row W _ 1 _ _ _ j⟩
  have KR : Hid (∀ W, Below w1.heap.size w1 W → W.heap[w.heap.size]? = some (.cells #[.int .i64 0, .slice none 0 0] 26 (0, 0))) := fun W hW => (hW.block w.heap.size (by have := Z1.out; omega)).trans k1
  have CP : Hid (∀ W, Below w1.heap.size w1 W → Calls Tryd.prog 41 #[.slice A n c] W fun e w' => ∃ A' c', e = .returned (.slice A' n c') ∧ OR 2 1 w' w1.heap.size A' n c' xs ∧ Below w1.heap.size w1 w') := fun W hW =>
    (l1IntsO_any lo (min hi w.heap.size) A n c xs W hn ex hA (h.lt.below (B1.out.trans (hW.mono B1.out.size)) (by omega))).mono fun e w' ⟨A', c', h1, h2, h3⟩ => ⟨A', c', h1, OR.mono h2 hW.size, hW.trans (h3.mono hW.size)⟩
  have HW1 := Lib.hid hw1
  clear hw1 hn ex hA h hp k1
  obtain ⟨q0, q1⟩ := KS.out w1 (Below.refl _ _)
  have fo0 := frozen_of_row w1 _ 0 _ _ (KR.out w1 (Below.refl _ _)); have fo1 := frozen_of_row w1 _ 1 _ _ (KR.out w1 (Below.refl _ _))
  go_enter Tryd.func37, Tryd.ntmps37
  go_upto_region 1 with (fail)
  rw [← HW1.out]
  clear HW1
  go_region_with (refine (CP.out _ (by first | exact Below.refl _ _ | exact Below.drew (Below.refl _ _))).mono ?_; rintro e9 w9 ⟨A', c', rfl, ho, hb⟩; have O9 := Lib.hid ho; have B9 := Lib.hid hb; clear ho hb; obtain ⟨s0, s1⟩ := KS.out w9 B9.out; have HRB := Lib.hid (KR.out w9 B9.out); have r0 := cell_of_row w9 _ 0 _ _ _ HRB.out; have r1 := cell_of_row w9 _ 1 _ _ _ HRB.out; have f0 := frozen_of_row w9 _ 0 _ _ HRB.out; have f1 := frozen_of_row w9 _ 1 _ _ HRB.out; simp at r0 r1)
  all_goals
    go_wp2
    refine bodyPost_ret (results_cell_row rfl _ _ _ _ _ (0, 0) _ rfl (heap_setCell_same _ _ 1 _ _ _ (heap_setCell_same _ _ 0 _ _ _ HRB.out)) Tryd.underlying26 rfl (by kernel_rfl)) rfl ?_
    refine ⟨A', c', rfl, ?_, ((B1.out.trans (B9.out.mono B1.out.size)).setCell (p := ⟨w.heap.size, 0, none⟩) (Nat.le_refl _) _).setCell (p := ⟨w.heap.size, 1, none⟩) (Nat.le_refl _) _⟩
    exact OR.mono (OR.setOther6 (OR.setOther6 O9.out HRB.out (by decide) 0 _) (heap_setCell_same _ _ 0 _ _ _ HRB.out) (by decide) 1 _) (by have := Z1.out; omega)

end Go.Proofs.YtachpoehejdpjaaDoor
