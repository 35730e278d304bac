/-
  SameLocks: true where both locks say the same: the model's, the program's. No conditions beyond that the lists can be read.
-/
import Derived.Test.YtachpoehejdpjaaKit6
import Derived.Test.YtachpoehejdpjaaEqual6
namespace Go.Proofs.Ytachpoehejdpjaa
open Go.RowKit
set_option maxRecDepth 100000

set_option maxHeartbeats 2000000 in
theorem specSameLocks_any (lo hi lo' hi' : Nat) (A A' : Option Addr) (n c n' c' : Nat) (b b' : Int) (xs ys : List Int) (w : World) (hn : n * 8 ≤ 140737488351232) (ex : xs.length = n) (ey : ys.length = n')
    (h : Sl w lo hi A n (fun k => .int .i64 (gi xs k))) (h' : Sl w lo' hi' A' n' (fun k => .int .i64 (gi ys k))) :
    Calls Try.prog 56 #[.agg #[.int .i64 b, .slice A n c], .agg #[.int .i64 b', .slice A' n' c']] w fun e w' => e = .returned (.bool (decide (b = b' ∧ xs = ys))) ∧ Below w.heap.size w w' := by
  obtain ⟨w2, hw2⟩ : ∃ w2, w2 = (w.alloc (.cells #[.int .i64 b, .slice A n c] 86)).alloc (.cells #[.int .i64 b', .slice A' n' c'] 86) := ⟨_, rfl⟩
  have B2 : Hid (Below w.heap.size w w2) := by rw [hw2]; exact (below_new w _).alloc (by simp) _
  have X0 : Hid (w2.heap[w.heap.size]? = some (.cells #[.int .i64 b, .slice A n c] 86 (0, 0))) := by show _ = _; rw [hw2]; exact heap_alloc2_old w _ _
  have X1 : Hid (w2.heap[w.heap.size + 1]? = some (.cells #[.int .i64 b', .slice A' n' c'] 86 (0, 0))) := by show _ = _; rw [hw2]; exact heap_alloc2_new w _ _
  have EQ := Lib.hid (specSameInts_any lo (min hi w.heap.size) lo' (min hi' w.heap.size) A A' xs ys n n' c c' w2 hn ex ey (h.lt.below B2.out (by omega)) (h'.lt.below B2.out (by omega)))
  have HW2 := Lib.hid hw2
  clear hw2 hn ex ey h h'
  have a0 := cell_of_row w2 _ 0 _ _ _ X0.out; have a1 := cell_of_row w2 _ 1 _ _ _ X0.out; have e0 := cell_of_row w2 _ 0 _ _ _ X1.out; have e1 := cell_of_row w2 _ 1 _ _ _ X1.out
  simp at a0 a1 e0 e1
  by_cases hb : b = b'
  · have H1 : Hid (decide (b = b' ∧ xs = ys) = decide (xs = ys)) := by show _ = _; simp [hb]
    have hb' : (b == b') = true := by simp [hb]
    clear hb
    go_enter Try.func56, Try.ntmps56
    go_upto_region 1 with (fail)
    rw [← HW2.out]
    clear HW2
    go_wp2_with fail
    refine EQ.out.mono ?_
    rintro e9 w3 ⟨rfl, hb⟩
    have B3 := Lib.hid (B2.out.trans (hb.mono B2.out.size))
    clear hb
    obtain ⟨z, hz⟩ : ∃ z, z = decide (xs = ys) := ⟨_, rfl⟩
    rw [← hz]
    rw [← hz] at H1
    clear hz EQ
    go_wp2
    go_ret
    exact ⟨ret_bool H1.out.symm, B3.out⟩
  · have H1 : Hid (decide (b = b' ∧ xs = ys) = false) := by show _ = _; simp [hb]
    have hb' : (b == b') = false := by simp [hb]
    clear hb EQ
    go_enter Try.func56, Try.ntmps56
    go_upto_region 1 with (fail)
    rw [← HW2.out]
    clear HW2
    go_wp2
    go_ret
    exact ⟨ret_bool H1.out.symm, B2.out⟩

set_option maxHeartbeats 2000000 in
theorem implSameLocks_any (lo hi lo' hi' : Nat) (A A' : Option Addr) (n c n' c' : Nat) (b b' : Int) (xs ys : List Int) (w : World) (hn : n * 8 ≤ 140737488351232) (ex : xs.length = n) (ey : ys.length = n')
    (h : Sl w lo hi A n (fun k => .int .i64 (gi xs k))) (h' : Sl w lo' hi' A' n' (fun k => .int .i64 (gi ys k))) :
    Calls Try.prog 61 #[.agg #[.int .i64 b, .slice A n c], .agg #[.int .i64 b', .slice A' n' c']] w fun e w' => e = .returned (.bool (decide (b = b' ∧ xs = ys))) ∧ Below w.heap.size w w' := by
  obtain ⟨w2, hw2⟩ : ∃ w2, w2 = (w.alloc (.cells #[.int .i64 b, .slice A n c] 86)).alloc (.cells #[.int .i64 b', .slice A' n' c'] 86) := ⟨_, rfl⟩
  have B2 : Hid (Below w.heap.size w w2) := by rw [hw2]; exact (below_new w _).alloc (by simp) _
  have X0 : Hid (w2.heap[w.heap.size]? = some (.cells #[.int .i64 b, .slice A n c] 86 (0, 0))) := by show _ = _; rw [hw2]; exact heap_alloc2_old w _ _
  have X1 : Hid (w2.heap[w.heap.size + 1]? = some (.cells #[.int .i64 b', .slice A' n' c'] 86 (0, 0))) := by show _ = _; rw [hw2]; exact heap_alloc2_new w _ _
  have EQ := Lib.hid (slicesEqual_any lo (min hi w.heap.size) lo' (min hi' w.heap.size) A A' xs ys n n' c c' w2 hn ex ey (h.lt.below B2.out (by omega)) (h'.lt.below B2.out (by omega)))
  have HW2 := Lib.hid hw2
  clear hw2 hn ex ey h h'
  have a0 := cell_of_row w2 _ 0 _ _ _ X0.out; have a1 := cell_of_row w2 _ 1 _ _ _ X0.out; have e0 := cell_of_row w2 _ 0 _ _ _ X1.out; have e1 := cell_of_row w2 _ 1 _ _ _ X1.out
  simp at a0 a1 e0 e1
  by_cases hb : b = b'
  · have H1 : Hid (decide (b = b' ∧ xs = ys) = decide (xs = ys)) := by show _ = _; simp [hb]
    have hb' : (b == b') = true := by simp [hb]
    clear hb
    go_enter Try.func61, Try.ntmps61
    go_upto_region 1 with (fail)
    rw [← HW2.out]
    clear HW2
    go_wp2_with fail
    refine EQ.out.mono ?_
    rintro e9 w3 ⟨rfl, hb⟩
    have B3 := Lib.hid (B2.out.trans (hb.mono B2.out.size))
    clear hb
    obtain ⟨z, hz⟩ : ∃ z, z = decide (xs = ys) := ⟨_, rfl⟩
    rw [← hz]
    rw [← hz] at H1
    clear hz EQ
    go_wp2
    go_ret
    exact ⟨ret_bool H1.out.symm, B3.out⟩
  · have H1 : Hid (decide (b = b' ∧ xs = ys) = false) := by show _ = _; simp [hb]
    have hb' : (b == b') = false := by simp [hb]
    clear hb EQ
    go_enter Try.func61, Try.ntmps61
    go_upto_region 1 with (fail)
    rw [← HW2.out]
    clear HW2
    go_wp2
    go_ret
    exact ⟨ret_bool H1.out.symm, B2.out⟩

end Go.Proofs.Ytachpoehejdpjaa
