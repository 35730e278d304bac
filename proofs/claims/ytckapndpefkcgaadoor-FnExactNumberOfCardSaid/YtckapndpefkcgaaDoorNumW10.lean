/-
  The law's walk of FnExactNumberOf: it answers true whatever the word; errors.errorType lies as the library lays it.
-/
import Derived.Test.YtckapndpefkcgaaDoorNum10
set_option maxHeartbeats 1000000
namespace Go.Proofs.YtckapndpefkcgaaDoor
open Go.RowKit
set_option maxRecDepth 100000

theorem eqIntResult10_same (a b : Int) (w : World) :
    Calls Tryd.prog 8 #[.agg #[.int .i64 a, .int .i64 b], .agg #[.int .i64 a, .int .i64 b]] w fun e w' => e = .returned (.bool true) ∧ Below w.heap.size w w' := by
  have B2 : Hid (∀ o o', Below w.heap.size w ((w.alloc o).alloc o')) := fun o o' => ((Below.refl _ _).alloc (Nat.le_refl _) o).alloc (by simp) o'
  go_enter Tryd.func8, Tryd.ntmps8
  go_wp2
  go_ret
  exact ⟨rfl, B2.out _ _⟩

set_option maxHeartbeats 1000000 in
theorem walkNumberOf (s : ByteArray) (w : World) (hg : ETy w) (hs : s.size ≤ 9223372036854775807) : Calls Tryd.prog 3 #[.string s] w fun e w' => e = .returned (.bool true) ∧ Below w.heap.size w w' := by
  by_cases hbig : (1048576 : Int) < (s.size : Int)
  · go_enter Tryd.func3, Tryd.ntmps3
    go_wp2
    go_ret
    exact ⟨rfl, Below.refl _ _⟩
  have SP := Lib.hid (fun w => specNumberOf_any s w hs)
  have IP := Lib.hid (fun w hg => implNumberOf_any s w hg hs)
  generalize (nof10 s).1 = q at *
  generalize (nof10 s).2 = v at *
  have G := Lib.hid hg
  clear hg
  go_enter Tryd.func3, Tryd.ntmps3
  go_wp2_with fail
  refine (SP.out _).mono ?_
  rintro e w1 ⟨rfl, hb⟩
  obtain ⟨w2, hw2⟩ : ∃ w2, w2 = w1.alloc (.cells #[.int .i64 q, .int .i64 v] 23) := ⟨_, rfl⟩
  have X2 : Hid (w2.heap[w1.heap.size]? = some (.cells #[.int .i64 q, .int .i64 v] 23 (0, 0))) := by show _ = _; rw [hw2]; exact heap_alloc_new w1 _
  have R2 : Hid (Below w.heap.size w w2) := by rw [hw2]; exact hb.alloc hb.size _
  have Z2 : Hid (w2.heap.size = w1.heap.size + 1) := by show _ = _; rw [hw2]; simp
  have HW2 := Lib.hid hw2
  clear hw2 hb
  go_upto_region 4 with (fail)
  rw [← HW2.out]
  clear HW2
  go_wp2_with fail
  refine (IP.out _ (ETy.below G.out R2.out)).mono ?_
  rintro e w3 ⟨rfl, hb⟩
  have X3 := (hb.block w1.heap.size (by have := Z2.out; omega)).trans X2.out
  have R3 := Lib.hid (R2.out.trans (hb.mono R2.out.size))
  have Z3 := Lib.hid (show w1.heap.size < w3.heap.size by have := hb.size; have := Z2.out; omega)
  obtain ⟨w4, hw4⟩ : ∃ w4, w4 = w3.alloc (.cells #[.int .i64 q, .int .i64 v] 23) := ⟨_, rfl⟩
  have X4 : w4.heap[w3.heap.size]? = some (.cells #[.int .i64 q, .int .i64 v] 23 (0, 0)) := by rw [hw4]; exact heap_alloc_new w3 _
  have Y4 : w4.heap[w1.heap.size]? = some (.cells #[.int .i64 q, .int .i64 v] 23 (0, 0)) := by rw [hw4]; exact (Below.heap_alloc _ _ _ Z3.out).trans X3
  have R4 : Hid (Below w.heap.size w w4) := by rw [hw4]; exact R3.out.alloc R3.out.size _
  have x0 := cell_of_row w4 _ 0 _ _ _ X4; have x1 := cell_of_row w4 _ 1 _ _ _ X4; have y0 := cell_of_row w4 _ 0 _ _ _ Y4; have y1 := cell_of_row w4 _ 1 _ _ _ Y4
  simp at x0 x1 y0 y1
  have HW4 := Lib.hid hw4
  clear hw4 hb X3 X4 Y4
  go_upto_region 5 with (fail)
  rw [← HW4.out]
  clear HW4
  go_wp2_with fail
  refine (eqIntResult10_same q v _).mono ?_
  rintro e w5 ⟨rfl, hb⟩
  have R5 := Lib.hid (R4.out.trans (hb.mono R4.out.size))
  clear hb
  go_wp2
  go_ret
  exact ⟨rfl, R5.out⟩

end Go.Proofs.YtckapndpefkcgaaDoor
