/-
  The laws' helpers on kernels and on answers of chapter 3: marks, copies, sizes. No conditions beyond that the lists can be read, or are the call's own.
-/
import Derived.Test.YtkhphkfbjbhgaaaGreatKit3
import Derived.Test.YtkhphkfbjbhgaaaGreatInts
import Derived.Test.YtkhphkfbjbhgaaaGreatKer3
-- Kit3b
namespace Go.Proofs.YtkhphkfbjbhgaaaGreat
open Go.RowKit

set_option maxHeartbeats 1000000 in
theorem eqNote_same (a b c : Int) (w : World) :
    Calls Tryz.prog 141 #[.agg #[.int .i64 a, .int .i64 b, .int .i64 c], .agg #[.int .i64 a, .int .i64 b, .int .i64 c]] w fun e w' => e = .returned (.bool true) ∧ Below w.heap.size w w' := by
  have B2 : Hid (∀ o o', Below w.heap.size w ((w.alloc o).alloc o')) := fun o o' => ((Below.refl _ _).alloc (Nat.le_refl _) o).alloc (by simp) o'
  go_enter Tryz.func141, Tryz.ntmps141
  go_wp2
  go_ret
  exact ⟨rfl, B2.out _ _⟩

set_option maxHeartbeats 1000000 in
/-- eqNoteS of two slices that read alike: true. -/
theorem eqNoteS_same (lo hi lo' hi' : Nat) (A A' : Option Addr) (n c c' : Nat) (x : Nat → Int) (w : World) (hn : n * 24 ≤ 140737488351232)
    (h : Sl w lo hi A (n * 3) (fun k => .int .i64 (x k))) (h' : Sl w lo' hi' A' (n * 3) (fun k => .int .i64 (x k))) :
    Calls Tryz.prog 86 #[.slice A n c, .slice A' n c'] w fun e w' => e = .returned (.bool true) ∧ Below w.heap.size w w' := by
  have H := Lib.hid h
  have H' := Lib.hid h'
  clear h h'
  go_enter Tryz.func86, Tryz.ntmps86
  go_wp2
  go_loopw [5] (fun i wr => ∃ k : Nat, k ≤ n ∧ i = .int .i64 k ∧ Below w.heap.size w wr) (fun i _ => n - (intOf i).toNat)
  case atStart => exact ⟨0, Nat.zero_le _, rfl, Below.refl _ _⟩
  case round =>
    obtain ⟨k, hk, rfl, hb⟩ := hrel
    by_cases hlt : k < n
    · obtain ⟨b, off, rfl, h1, h2, hc⟩ := H.out.lt.at_ (show k * 3 < n * 3 by omega)
      obtain ⟨b', off', rfl, h1', h2', hc'⟩ := H'.out.lt.at_ (show k * 3 < n * 3 by omega)
      have p0 : wr.cell? ⟨b, off + k * 3, none⟩ = some (.int .i64 (x (k * 3))) := (hb.cell (p := ⟨b, off + (k * 3), none⟩) (by simp; omega)).trans (hc (k * 3) (by omega))
      have p1 : wr.cell? ⟨b, off + k * 3 + 1, none⟩ = some (.int .i64 (x (k * 3 + 1))) := (hb.cell (p := ⟨b, off + (k * 3 + 1), none⟩) (by simp; omega)).trans (hc (k * 3 + 1) (by omega))
      have p2 : wr.cell? ⟨b, off + k * 3 + 2, none⟩ = some (.int .i64 (x (k * 3 + 2))) := (hb.cell (p := ⟨b, off + (k * 3 + 2), none⟩) (by simp; omega)).trans (hc (k * 3 + 2) (by omega))
      have q0 : wr.cell? ⟨b', off' + k * 3, none⟩ = some (.int .i64 (x (k * 3))) := (hb.cell (p := ⟨b', off' + (k * 3), none⟩) (by simp; omega)).trans (hc' (k * 3) (by omega))
      have q1 : wr.cell? ⟨b', off' + k * 3 + 1, none⟩ = some (.int .i64 (x (k * 3 + 1))) := (hb.cell (p := ⟨b', off' + (k * 3 + 1), none⟩) (by simp; omega)).trans (hc' (k * 3 + 1) (by omega))
      have q2 : wr.cell? ⟨b', off' + k * 3 + 2, none⟩ = some (.int .i64 (x (k * 3 + 2))) := (hb.cell (p := ⟨b', off' + (k * 3 + 2), none⟩) (by simp; omega)).trans (hc' (k * 3 + 2) (by omega))
      have HB := Lib.hid hb
      clear hb hc hc' H H'
      go_wp2_with fail
      go_region_with (refine (eqNote_same _ _ _ _).mono ?_; rintro e w1 ⟨rfl, hb1⟩; have HB1 := Lib.hid ((below_drewN HB.out 1).trans (hb1.mono HB.out.size)); clear hb1)
      all_goals
        go_wp2
        go_roundw
        case rel => exact ⟨k + 1, by omega, by go_num, HB1.out⟩
        case measure => simp [intOf]; omega
    · go_wp2
      go_ret
      exact ⟨rfl, hb⟩

set_option maxHeartbeats 1000000 in
/-- markNoteS of a row of one's own: the row reads k, k + 1, .. afterwards; nothing else turns. -/
theorem markNoteS_any (lo hi : Nat) (A : Option Addr) (n c : Nat) (x : Nat → Value) (m : Nat) (w : World) (hn : n * 24 ≤ 140737488351232) (hm : m ≤ 2305843009213693952)
    (hx : ∀ k, k < n * 3 → ∃ y, x k = .int .i64 y) (h : Mine w lo hi 65 A (n * 3) x) :
    Calls Tryz.prog 88 #[.slice A n c, .int .i64 m] w fun e w' =>
      e = .returned (.int .i64 ((m + n * 3 : Nat) : Int)) ∧ Mine w' lo hi 65 A (n * 3) (fun k => .int .i64 ((m + k : Nat) : Int)) ∧ Only lo hi w w' := by
  have H := Lib.hid h
  have X := Lib.hid hx
  clear h hx
  go_enter Tryz.func88, Tryz.ntmps88
  go_wp2
  go_loopw [1, 5] (fun q i wr => ∃ k : Nat, k ≤ n ∧ i = .int .i64 k ∧ q = .int .i64 ((m + k * 3 : Nat) : Int) ∧ Mine wr lo hi 65 A (n * 3) (fun j => if j < k * 3 then .int .i64 ((m + j : Nat) : Int) else x j) ∧ Only lo hi w wr) (fun _ i _ => n - (intOf i).toNat)
  case atStart => exact ⟨0, Nat.zero_le _, rfl, by go_num, H.out.congr (fun k hk => by simp), Only.refl _ _ _⟩
  case round =>
    obtain ⟨k, hk, rfl, rfl, hmine, hb⟩ := hrel
    by_cases hlt : k < n
    · rcases hmine with h0 | ⟨g, off, rfl, h1, h2, hrow⟩
      · omega
      obtain ⟨y0, hy0⟩ := X.out (k * 3 + 0) (by omega)
      have o0 : wr.cell? ⟨g, off + k * 3, none⟩ = some (.int .i64 y0) := by
        have := hrow.cell (show k * 3 + 0 < n * 3 by omega)
        rw [if_neg (by omega), hy0] at this
        exact this
      have f0 := hrow.frozen (off + k * 3)
      obtain ⟨y1, hy1⟩ := X.out (k * 3 + 1) (by omega)
      have o1 : wr.cell? ⟨g, off + k * 3 + 1, none⟩ = some (.int .i64 y1) := by
        have := hrow.cell (show k * 3 + 1 < n * 3 by omega)
        rw [if_neg (by omega), hy1] at this
        exact this
      have f1 := hrow.frozen (off + k * 3 + 1)
      obtain ⟨y2, hy2⟩ := X.out (k * 3 + 2) (by omega)
      have o2 : wr.cell? ⟨g, off + k * 3 + 2, none⟩ = some (.int .i64 y2) := by
        have := hrow.cell (show k * 3 + 2 < n * 3 by omega)
        rw [if_neg (by omega), hy2] at this
        exact this
      have f2 := hrow.frozen (off + k * 3 + 2)
      have e0 : ((m + k * 3 : Nat) : Int) = (m : Int) + k * 3 := by omega
      have HR := Lib.hid (hrow.mark3 hlt)
      have HB := Lib.hid (hb.set3 (g := g) (i := off + k * 3) h1 h2 (.int .i64 ((m : Int) + k * 3)) (.int .i64 ((m : Int) + k * 3 + 1)) (.int .i64 ((m : Int) + k * 3 + 1 + 1)))
      rw [e0]
      clear e0 hb hrow H X hy0 hy1 hy2
      go_wp2
      go_roundw
      case rel => exact ⟨k + 1, by omega, by go_num, by go_num, .inr ⟨g, off, rfl, h1, h2, HR.out⟩, HB.out⟩
      case measure => simp [intOf]; omega
    · have e0 : k = n := by omega
      subst e0
      go_wp2
      go_ret
      exact ⟨rfl, hmine.congr (fun j hj => by rw [if_pos hj]), hb⟩

set_option maxHeartbeats 1000000 in
/-- heldNoteS of a slice that reads m, m + 1, ..: m + n * 3. -/
theorem heldNoteS_any (lo hi : Nat) (A : Option Addr) (n c : Nat) (m : Nat) (w : World) (hn : n * 24 ≤ 140737488351232) (hm : m ≤ 2305843009213693952)
    (h : Sl w lo hi A (n * 3) (fun k => .int .i64 ((m + k : Nat) : Int))) :
    Calls Tryz.prog 90 #[.slice A n c, .int .i64 m] w fun e w' => e = .returned (.int .i64 ((m + n * 3 : Nat) : Int)) ∧ Below w.heap.size w w' := by
  have H := Lib.hid h
  clear h
  go_enter Tryz.func90, Tryz.ntmps90
  go_wp2
  go_loopw [1, 5] (fun q i wr => ∃ k : Nat, k ≤ n ∧ i = .int .i64 k ∧ q = .int .i64 ((m + k * 3 : Nat) : Int) ∧ Below w.heap.size w wr) (fun _ i _ => n - (intOf i).toNat)
  case atStart => exact ⟨0, Nat.zero_le _, rfl, by go_num, Below.refl _ _⟩
  case round =>
    obtain ⟨k, hk, rfl, rfl, hb⟩ := hrel
    by_cases hlt : k < n
    · obtain ⟨b, off, rfl, h1, h2, hc⟩ := H.out.lt.at_ (show k * 3 < n * 3 by omega)
      have c0 : wr.cell? ⟨b, off + k * 3, none⟩ = some (.int .i64 ((m : Int) + k * 3)) := by
        rw [show ((m : Int) + k * 3 : Int) = ((m + (k * 3) : Nat) : Int) by omega]
        exact (hb.cell (p := ⟨b, off + (k * 3), none⟩) (by simp; omega)).trans (hc (k * 3) (by omega))
      have c1 : wr.cell? ⟨b, off + k * 3 + 1, none⟩ = some (.int .i64 ((m : Int) + k * 3 + 1)) := by
        rw [show ((m : Int) + k * 3 + 1 : Int) = ((m + (k * 3 + 1) : Nat) : Int) by omega]
        exact (hb.cell (p := ⟨b, off + (k * 3 + 1), none⟩) (by simp; omega)).trans (hc (k * 3 + 1) (by omega))
      have c2 : wr.cell? ⟨b, off + k * 3 + 2, none⟩ = some (.int .i64 ((m : Int) + k * 3 + 1 + 1)) := by
        rw [show ((m : Int) + k * 3 + 1 + 1 : Int) = ((m + (k * 3 + 2) : Nat) : Int) by omega]
        exact (hb.cell (p := ⟨b, off + (k * 3 + 2), none⟩) (by simp; omega)).trans (hc (k * 3 + 2) (by omega))
      have HB := Lib.hid hb
      have e0 : ((m + k * 3 : Nat) : Int) = (m : Int) + k * 3 := by omega
      rw [e0]
      clear e0 hb hc H
      go_wp2
      go_roundw
      case rel => exact ⟨k + 1, by omega, by go_num, by go_num, HB.out⟩
      case measure => simp [intOf]; omega
    · have e0 : k = n := by omega
      subst e0
      go_wp2
      go_ret
      exact ⟨rfl, hb⟩

set_option maxHeartbeats 1000000 in
/-- eqKernel of two kernels that read alike: true. -/
theorem eqKernel_same (lo hi lo' hi' : Nat) (A1 : Option Addr) (n1 c1 : Nat) (A2 : Option Addr) (n2 c2 : Nat) (A3 : Option Addr) (n3 c3 : Nat) (A1' : Option Addr) (c1' : Nat) (A2' : Option Addr) (c2' : Nat) (A3' : Option Addr) (c3' : Nat) (t r : Int) (K : Ker) (w : World) (hn1 : n1 * 8 ≤ 140737488351232) (hn2 : n2 * 8 ≤ 140737488351232) (hn3 : n3 * 32 ≤ 140737488351232)
    (h : KRead w lo hi A1 n1 A2 n2 A3 n3 K) (h' : KRead w lo' hi' A1' n1 A2' n2 A3' n3 K) :
    Calls Tryz.prog 85 #[.agg #[.slice A1 n1 c1, .slice A2 n2 c2, .slice A3 n3 c3, .int .i64 t, .int .i64 r], .agg #[.slice A1' n1 c1', .slice A2' n2 c2', .slice A3' n3 c3', .int .i64 t, .int .i64 r]] w fun e w' => e = .returned (.bool true) ∧ Below w.heap.size w w' := by
  have K1 : Hid (((w.alloc (.cells #[.slice A1 n1 c1, .slice A2 n2 c2, .slice A3 n3 c3, .int .i64 t, .int .i64 r] 49)).alloc (.cells #[.slice A1' n1 c1', .slice A2' n2 c2', .slice A3' n3 c3', .int .i64 t, .int .i64 r] 49)).heap[w.heap.size]? = some (.cells #[.slice A1 n1 c1, .slice A2 n2 c2, .slice A3 n3 c3, .int .i64 t, .int .i64 r] 49 (0, 0))) := heap_alloc2_old w _ _
  have K2 : Hid (((w.alloc (.cells #[.slice A1 n1 c1, .slice A2 n2 c2, .slice A3 n3 c3, .int .i64 t, .int .i64 r] 49)).alloc (.cells #[.slice A1' n1 c1', .slice A2' n2 c2', .slice A3' n3 c3', .int .i64 t, .int .i64 r] 49)).heap[w.heap.size + 1]? = some (.cells #[.slice A1' n1 c1', .slice A2' n2 c2', .slice A3' n3 c3', .int .i64 t, .int .i64 r] 49 (0, 0))) := heap_alloc2_new w _ _
  have B2 : Hid (Below w.heap.size w ((w.alloc (.cells #[.slice A1 n1 c1, .slice A2 n2 c2, .slice A3 n3 c3, .int .i64 t, .int .i64 r] 49)).alloc (.cells #[.slice A1' n1 c1', .slice A2' n2 c2', .slice A3' n3 c3', .int .i64 t, .int .i64 r] 49))) := ((Below.refl _ _).alloc (Nat.le_refl _) _).alloc (by simp) _
  have Q1 : Hid (∀ W, Below (w.heap.size + 2) ((w.alloc (.cells #[.slice A1 n1 c1, .slice A2 n2 c2, .slice A3 n3 c3, .int .i64 t, .int .i64 r] 49)).alloc (.cells #[.slice A1' n1 c1', .slice A2' n2 c2', .slice A3' n3 c3', .int .i64 t, .int .i64 r] 49)) W → W.cell? ⟨w.heap.size, 0, none⟩ = some (.slice A1 n1 c1) ∧ W.cell? ⟨w.heap.size, 1, none⟩ = some (.slice A2 n2 c2) ∧ W.cell? ⟨w.heap.size, 2, none⟩ = some (.slice A3 n3 c3) ∧ W.cell? ⟨w.heap.size, 3, none⟩ = some (.int .i64 t) ∧ W.cell? ⟨w.heap.size, 4, none⟩ = some (.int .i64 r)) := fun W hB => ⟨cell_of_row W _ 0 _ _ _ ((hB.block _ (by simp; try omega)).trans K1.out), cell_of_row W _ 1 _ _ _ ((hB.block _ (by simp; try omega)).trans K1.out), cell_of_row W _ 2 _ _ _ ((hB.block _ (by simp; try omega)).trans K1.out), cell_of_row W _ 3 _ _ _ ((hB.block _ (by simp; try omega)).trans K1.out), cell_of_row W _ 4 _ _ _ ((hB.block _ (by simp; try omega)).trans K1.out)⟩
  have Q2 : Hid (∀ W, Below (w.heap.size + 2) ((w.alloc (.cells #[.slice A1 n1 c1, .slice A2 n2 c2, .slice A3 n3 c3, .int .i64 t, .int .i64 r] 49)).alloc (.cells #[.slice A1' n1 c1', .slice A2' n2 c2', .slice A3' n3 c3', .int .i64 t, .int .i64 r] 49)) W → W.cell? ⟨(w.heap.size + 1), 0, none⟩ = some (.slice A1' n1 c1') ∧ W.cell? ⟨(w.heap.size + 1), 1, none⟩ = some (.slice A2' n2 c2') ∧ W.cell? ⟨(w.heap.size + 1), 2, none⟩ = some (.slice A3' n3 c3') ∧ W.cell? ⟨(w.heap.size + 1), 3, none⟩ = some (.int .i64 t) ∧ W.cell? ⟨(w.heap.size + 1), 4, none⟩ = some (.int .i64 r)) := fun W hB => ⟨cell_of_row W _ 0 _ _ _ ((hB.block _ (by simp; try omega)).trans K2.out), cell_of_row W _ 1 _ _ _ ((hB.block _ (by simp; try omega)).trans K2.out), cell_of_row W _ 2 _ _ _ ((hB.block _ (by simp; try omega)).trans K2.out), cell_of_row W _ 3 _ _ _ ((hB.block _ (by simp; try omega)).trans K2.out), cell_of_row W _ 4 _ _ _ ((hB.block _ (by simp; try omega)).trans K2.out)⟩
  have R := Lib.hid (h.lt.below B2.out (Nat.min_le_right _ _))
  have R' := Lib.hid (h'.lt.below B2.out (Nat.min_le_right _ _))
  have H0 : Hid (Below (w.heap.size + 2) ((w.alloc (.cells #[.slice A1 n1 c1, .slice A2 n2 c2, .slice A3 n3 c3, .int .i64 t, .int .i64 r] 49)).alloc (.cells #[.slice A1' n1 c1', .slice A2' n2 c2', .slice A3' n3 c3', .int .i64 t, .int .i64 r] 49)) ((w.alloc (.cells #[.slice A1 n1 c1, .slice A2 n2 c2, .slice A3 n3 c3, .int .i64 t, .int .i64 r] 49)).alloc (.cells #[.slice A1' n1 c1', .slice A2' n2 c2', .slice A3' n3 c3', .int .i64 t, .int .i64 r] 49))) := Below.refl _ _
  have S2 : Hid (((w.alloc (.cells #[.slice A1 n1 c1, .slice A2 n2 c2, .slice A3 n3 c3, .int .i64 t, .int .i64 r] 49)).alloc (.cells #[.slice A1' n1 c1', .slice A2' n2 c2', .slice A3' n3 c3', .int .i64 t, .int .i64 r] 49)).heap.size = w.heap.size + 2) := by show _ = _; simp
  clear h h' K1 K2
  go_enter Tryz.func85, Tryz.ntmps85
  go_wp2_with fail
  refine (eqInt64S_same lo (min hi w.heap.size) lo' (min hi' w.heap.size) A1 A1' n1 c1 c1' (gi K.os) _ (by omega) (R.out.below H0.out (by omega)).2.1 (R'.out.below H0.out (by omega)).2.1).mono ?_
  rintro e w1 ⟨rfl, hb⟩
  have sz := H0.out.size
  have sz2 := S2.out
  have Hw1 := Lib.hid (H0.out.trans (hb.mono (by omega)))
  obtain ⟨x0, x1, x2, x3, x4⟩ := Q1.out _ Hw1.out
  obtain ⟨y0, y1, y2, y3, y4⟩ := Q2.out _ Hw1.out
  clear hb sz sz2
  go_wp2_with fail
  refine (eqBoolS_same lo (min hi w.heap.size) lo' (min hi' w.heap.size) A2 A2' n2 c2 c2' (gb K.al) _ (by omega) (R.out.below Hw1.out (by omega)).2.2.1 (R'.out.below Hw1.out (by omega)).2.2.1).mono ?_
  rintro e w2 ⟨rfl, hb⟩
  have sz := Hw1.out.size
  have sz2 := S2.out
  have Hw2 := Lib.hid (Hw1.out.trans (hb.mono (by omega)))
  obtain ⟨x0, x1, x2, x3, x4⟩ := Q1.out _ Hw2.out
  obtain ⟨y0, y1, y2, y3, y4⟩ := Q2.out _ Hw2.out
  clear hb sz sz2
  go_wp2_with fail
  refine (eqAccountS_same lo (min hi w.heap.size) lo' (min hi' w.heap.size) A3 A3' n3 c3 c3' (gi K.ac) _ (by omega) (R.out.below Hw2.out (by omega)).2.2.2 (R'.out.below Hw2.out (by omega)).2.2.2).mono ?_
  rintro e w3 ⟨rfl, hb⟩
  have sz := Hw2.out.size
  have sz2 := S2.out
  have Hw3 := Lib.hid (Hw2.out.trans (hb.mono (by omega)))
  obtain ⟨x0, x1, x2, x3, x4⟩ := Q1.out _ Hw3.out
  obtain ⟨y0, y1, y2, y3, y4⟩ := Q2.out _ Hw3.out
  clear hb sz sz2
  go_wp2
  go_ret
  exact ⟨rfl, B2.out.trans (Hw3.out.mono (by omega))⟩

set_option maxHeartbeats 1000000 in
/-- heldKernel of a kernel that reads m, m + 1, ..: what comes next. -/
theorem heldKernel_any (lo hi : Nat) (A1 : Option Addr) (n1 c1 : Nat) (A2 : Option Addr) (n2 c2 : Nat) (A3 : Option Addr) (n3 c3 : Nat) (t r : Int) (m : Nat) (w : World) (hn1 : n1 * 8 ≤ 140737488351232) (hn2 : n2 * 8 ≤ 140737488351232) (hn3 : n3 * 32 ≤ 140737488351232) (hm : m ≤ 1152921504606846976)
    (h1 : Sl w lo hi A1 n1 (fun k => .int .i64 ((m + k : Nat) : Int))) (h2 : Sl w lo hi A2 n2 (fun k => .bool (m3 (m + n1 + k)))) (h3 : Sl w lo hi A3 (n3 * 4) (fun k => .int .i64 ((m + n1 + n2 + k : Nat) : Int))) :
    Calls Tryz.prog 89 #[.agg #[.slice A1 n1 c1, .slice A2 n2 c2, .slice A3 n3 c3, .int .i64 t, .int .i64 r], .int .i64 m] w fun e w' => e = .returned (.int .i64 ((m + n1 + n2 + n3 * 4 : Nat) : Int)) ∧ Below w.heap.size w w' := by
  have K1 : Hid ((w.alloc (.cells #[.slice A1 n1 c1, .slice A2 n2 c2, .slice A3 n3 c3, .int .i64 t, .int .i64 r] 49)).heap[w.heap.size]? = some (.cells #[.slice A1 n1 c1, .slice A2 n2 c2, .slice A3 n3 c3, .int .i64 t, .int .i64 r] 49 (0, 0))) := heap_alloc_new w _
  have B2 : Hid (Below w.heap.size w (w.alloc (.cells #[.slice A1 n1 c1, .slice A2 n2 c2, .slice A3 n3 c3, .int .i64 t, .int .i64 r] 49))) := below_new w _
  have Q1 : Hid (∀ W, Below (w.heap.size + 1) (w.alloc (.cells #[.slice A1 n1 c1, .slice A2 n2 c2, .slice A3 n3 c3, .int .i64 t, .int .i64 r] 49)) W → W.cell? ⟨w.heap.size, 0, none⟩ = some (.slice A1 n1 c1) ∧ W.cell? ⟨w.heap.size, 1, none⟩ = some (.slice A2 n2 c2) ∧ W.cell? ⟨w.heap.size, 2, none⟩ = some (.slice A3 n3 c3) ∧ W.cell? ⟨w.heap.size, 3, none⟩ = some (.int .i64 t) ∧ W.cell? ⟨w.heap.size, 4, none⟩ = some (.int .i64 r)) := fun W hB => ⟨cell_of_row W _ 0 _ _ _ ((hB.block _ (by simp; try omega)).trans K1.out), cell_of_row W _ 1 _ _ _ ((hB.block _ (by simp; try omega)).trans K1.out), cell_of_row W _ 2 _ _ _ ((hB.block _ (by simp; try omega)).trans K1.out), cell_of_row W _ 3 _ _ _ ((hB.block _ (by simp; try omega)).trans K1.out), cell_of_row W _ 4 _ _ _ ((hB.block _ (by simp; try omega)).trans K1.out)⟩
  have P1 := Lib.hid (h1.lt.below B2.out (Nat.min_le_right _ _)); have P2 := Lib.hid (h2.lt.below B2.out (Nat.min_le_right _ _)); have P3 := Lib.hid (h3.lt.below B2.out (Nat.min_le_right _ _))
  have H0 : Hid (Below (w.heap.size + 1) (w.alloc (.cells #[.slice A1 n1 c1, .slice A2 n2 c2, .slice A3 n3 c3, .int .i64 t, .int .i64 r] 49)) (w.alloc (.cells #[.slice A1 n1 c1, .slice A2 n2 c2, .slice A3 n3 c3, .int .i64 t, .int .i64 r] 49))) := Below.refl _ _
  have S2 : Hid ((w.alloc (.cells #[.slice A1 n1 c1, .slice A2 n2 c2, .slice A3 n3 c3, .int .i64 t, .int .i64 r] 49)).heap.size = w.heap.size + 1) := by show _ = _; simp
  clear h1 h2 h3 K1
  go_enter Tryz.func89, Tryz.ntmps89
  go_wp2_with fail
  refine (heldInt64S_any lo (min hi w.heap.size) A1 n1 c1 m _ (by omega) (by omega) (P1.out.below H0.out (by omega))).mono ?_
  rintro e w1 ⟨rfl, hb⟩
  have sz := H0.out.size
  have sz2 := S2.out
  have Hw1 := Lib.hid (H0.out.trans (hb.mono (by omega)))
  obtain ⟨x0, x1, x2, x3, x4⟩ := Q1.out _ Hw1.out
  clear hb sz sz2
  go_wp2_with fail
  refine (heldBoolS_any lo (min hi w.heap.size) A2 n2 c2 (m + n1) _ (by omega) (by omega) (P2.out.below Hw1.out (by omega))).mono ?_
  rintro e w2 ⟨rfl, hb⟩
  have sz := Hw1.out.size
  have sz2 := S2.out
  have Hw2 := Lib.hid (Hw1.out.trans (hb.mono (by omega)))
  obtain ⟨x0, x1, x2, x3, x4⟩ := Q1.out _ Hw2.out
  clear hb sz sz2
  go_wp2_with fail
  refine (heldAccountS_any lo (min hi w.heap.size) A3 n3 c3 (m + n1 + n2) _ (by omega) (by omega) (P3.out.below Hw2.out (by omega))).mono ?_
  rintro e w3 ⟨rfl, hb⟩
  have sz := Hw2.out.size
  have sz2 := S2.out
  have Hw3 := Lib.hid (Hw2.out.trans (hb.mono (by omega)))
  obtain ⟨x0, x1, x2, x3, x4⟩ := Q1.out _ Hw3.out
  clear hb sz sz2
  go_wp2
  go_ret
  exact ⟨rfl, B2.out.trans (Hw3.out.mono (by omega))⟩

end Go.Proofs.YtkhphkfbjbhgaaaGreat

-- Kit3c
namespace Go.Proofs.YtkhphkfbjbhgaaaGreat
open Go.RowKit

/-- the block of a list, if it has anything -/
def gsOf (n g : Nat) : List Nat := if n = 0 then [] else [g]
set_option maxHeartbeats 1000000 in
theorem Mine.keptOf {n1 g1 n g : Nat} {w w' : World} {t : TypeId} {A : Option Addr} {f : Nat → Value} (h : Mine w g (g + 1) t A n f) (k : Kept (gsOf n1 g1) w w') (d : n1 ≠ 0 → n ≠ 0 → g1 ≠ g) : Mine w' g (g + 1) t A n f := by
  by_cases h0 : n = 0
  · exact .inl h0
  · by_cases h1 : n1 = 0
    · rw [gsOf, if_pos h1] at k
      exact h.kept k (by simp)
    · rw [gsOf, if_neg h1] at k
      exact h.kept k (by simp; exact fun e => d h1 h0 e.symm)
set_option maxHeartbeats 1000000 in
theorem Kept.of_only {g : Nat} {w w' : World} (h : Only g (g + 1) w w') : Kept [g] w w' :=
  ⟨h.1.mono (Nat.zero_le _), fun b hb hn => by
    by_cases hlt : b < g
    · exact h.1.block b hlt
    · exact h.2 b (by simp at hn; omega) hb⟩
set_option maxHeartbeats 1000000 in
theorem Kept.of_none {w w' : World} (h : Only 0 0 w w') : Kept [] w w' := ⟨h.1, fun b hb _ => h.2 b (Nat.zero_le _) hb⟩

set_option maxHeartbeats 1000000 in
theorem markInt64S_kept (g : Nat) (A : Option Addr) (n c : Nat) (x : Nat → Int) (m : Nat) (w : World) (hn : n * 8 ≤ 140737488351232) (hm : m ≤ 2305843009213693952) (h : Mine w g (g + 1) 2 A (n) (fun k => .int .i64 (x k))) :
    Calls Tryz.prog 73 #[.slice A n c, .int .i64 m] w fun e w' =>
      e = .returned (.int .i64 ((m + n : Nat) : Int)) ∧ Mine w' g (g + 1) 2 A (n) (fun k => .int .i64 ((m + k : Nat) : Int)) ∧ Kept (gsOf (n) g) w w' := by
  by_cases h0 : n = 0
  · subst h0
    refine (markInt64S_any 0 0 A 0 c (fun k => .int .i64 (x k)) m w (by omega) (by omega) (fun k hk => ⟨_, rfl⟩) (.inl (by simp))).mono ?_
    rintro e w' ⟨h1, _, h3⟩
    exact ⟨h1, .inl (by simp), Kept.of_none h3⟩
  · refine (markInt64S_any g (g + 1) A n c (fun k => .int .i64 (x k)) m w (by omega) (by omega) (fun k hk => ⟨_, rfl⟩) h).mono ?_
    rintro e w' ⟨h1, h2, h3⟩
    exact ⟨h1, h2, by rw [gsOf, if_neg (by omega)]; exact Kept.of_only h3⟩

set_option maxHeartbeats 1000000 in
theorem markBoolS_kept (g : Nat) (A : Option Addr) (n c : Nat) (x : Nat → Bool) (m : Nat) (w : World) (hn : n * 8 ≤ 140737488351232) (hm : m ≤ 2305843009213693952) (h : Mine w g (g + 1) 4 A (n) (fun k => .bool (x k))) :
    Calls Tryz.prog 142 #[.slice A n c, .int .i64 m] w fun e w' =>
      e = .returned (.int .i64 ((m + n : Nat) : Int)) ∧ Mine w' g (g + 1) 4 A (n) (fun k => .bool (m3 (m + k))) ∧ Kept (gsOf (n) g) w w' := by
  by_cases h0 : n = 0
  · subst h0
    refine (markBoolS_any 0 0 A 0 c (fun k => .bool (x k)) m w (by omega) (by omega) (fun k hk => ⟨_, rfl⟩) (.inl (by simp))).mono ?_
    rintro e w' ⟨h1, _, h3⟩
    exact ⟨h1, .inl (by simp), Kept.of_none h3⟩
  · refine (markBoolS_any g (g + 1) A n c (fun k => .bool (x k)) m w (by omega) (by omega) (fun k hk => ⟨_, rfl⟩) h).mono ?_
    rintro e w' ⟨h1, h2, h3⟩
    exact ⟨h1, h2, by rw [gsOf, if_neg (by omega)]; exact Kept.of_only h3⟩

set_option maxHeartbeats 1000000 in
theorem markAccountS_kept (g : Nat) (A : Option Addr) (n c : Nat) (x : Nat → Int) (m : Nat) (w : World) (hn : n * 32 ≤ 140737488351232) (hm : m ≤ 2305843009213693952) (h : Mine w g (g + 1) 88 A (n * 4) (fun k => .int .i64 (x k))) :
    Calls Tryz.prog 143 #[.slice A n c, .int .i64 m] w fun e w' =>
      e = .returned (.int .i64 ((m + n * 4 : Nat) : Int)) ∧ Mine w' g (g + 1) 88 A (n * 4) (fun k => .int .i64 ((m + k : Nat) : Int)) ∧ Kept (gsOf (n * 4) g) w w' := by
  by_cases h0 : n = 0
  · subst h0
    refine (markAccountS_any 0 0 A 0 c (fun k => .int .i64 (x k)) m w (by omega) (by omega) (fun k hk => ⟨_, rfl⟩) (.inl (by simp))).mono ?_
    rintro e w' ⟨h1, _, h3⟩
    exact ⟨h1, .inl (by simp), Kept.of_none h3⟩
  · refine (markAccountS_any g (g + 1) A n c (fun k => .int .i64 (x k)) m w (by omega) (by omega) (fun k hk => ⟨_, rfl⟩) h).mono ?_
    rintro e w' ⟨h1, h2, h3⟩
    exact ⟨h1, h2, by rw [gsOf, if_neg (by omega)]; exact Kept.of_only h3⟩

set_option maxHeartbeats 1000000 in
theorem markNoteS_kept (g : Nat) (A : Option Addr) (n c : Nat) (x : Nat → Int) (m : Nat) (w : World) (hn : n * 24 ≤ 140737488351232) (hm : m ≤ 2305843009213693952) (h : Mine w g (g + 1) 65 A (n * 3) (fun k => .int .i64 (x k))) :
    Calls Tryz.prog 88 #[.slice A n c, .int .i64 m] w fun e w' =>
      e = .returned (.int .i64 ((m + n * 3 : Nat) : Int)) ∧ Mine w' g (g + 1) 65 A (n * 3) (fun k => .int .i64 ((m + k : Nat) : Int)) ∧ Kept (gsOf (n * 3) g) w w' := by
  by_cases h0 : n = 0
  · subst h0
    refine (markNoteS_any 0 0 A 0 c (fun k => .int .i64 (x k)) m w (by omega) (by omega) (fun k hk => ⟨_, rfl⟩) (.inl (by simp))).mono ?_
    rintro e w' ⟨h1, _, h3⟩
    exact ⟨h1, .inl (by simp), Kept.of_none h3⟩
  · refine (markNoteS_any g (g + 1) A n c (fun k => .int .i64 (x k)) m w (by omega) (by omega) (fun k hk => ⟨_, rfl⟩) h).mono ?_
    rintro e w' ⟨h1, h2, h3⟩
    exact ⟨h1, h2, by rw [gsOf, if_neg (by omega)]; exact Kept.of_only h3⟩

set_option maxHeartbeats 1000000 in
theorem gs_notin {n g b : Nat} (h : g ≠ b) : b ∉ gsOf n g := by
  unfold gsOf
  split
  · simp
  · simp; omega
set_option maxHeartbeats 1000000 in
theorem markKernel_any (A1 : Option Addr) (n1 c1 : Nat) (A2 : Option Addr) (n2 c2 : Nat) (A3 : Option Addr) (n3 c3 : Nat) (g1 g2 g3 : Nat) (x1 : Nat → Int) (x2 : Nat → Bool) (x3 : Nat → Int) (t r : Int) (m : Nat) (w : World) (hn1 : n1 * 8 ≤ 140737488351232) (hn2 : n2 * 8 ≤ 140737488351232) (hn3 : n3 * 32 ≤ 140737488351232) (hm : m ≤ 1152921504606846976)
    (h1 : Mine w g1 (g1 + 1) 2 A1 n1 (fun k => .int .i64 (x1 k))) (h2 : Mine w g2 (g2 + 1) 4 A2 n2 (fun k => .bool (x2 k))) (h3 : Mine w g3 (g3 + 1) 88 A3 (n3 * 4) (fun k => .int .i64 (x3 k)))
    (b1 : g1 < w.heap.size) (b2 : g2 < w.heap.size) (b3 : g3 < w.heap.size) (d12 : n1 ≠ 0 → n2 ≠ 0 → g1 ≠ g2) (d13 : n1 ≠ 0 → n3 ≠ 0 → g1 ≠ g3) (d23 : n2 ≠ 0 → n3 ≠ 0 → g2 ≠ g3) :
    Calls Tryz.prog 87 #[.agg #[.slice A1 n1 c1, .slice A2 n2 c2, .slice A3 n3 c3, .int .i64 t, .int .i64 r], .int .i64 m] w fun e w' => e = .returned (.int .i64 ((m + n1 + n2 + n3 * 4 : Nat) : Int)) ∧
      Mine w' g1 (g1 + 1) 2 A1 n1 (fun k => .int .i64 ((m + k : Nat) : Int)) ∧ Mine w' g2 (g2 + 1) 4 A2 n2 (fun k => .bool (m3 (m + n1 + k))) ∧ Mine w' g3 (g3 + 1) 88 A3 (n3 * 4) (fun k => .int .i64 ((m + n1 + n2 + k : Nat) : Int)) ∧
      Kept (gsOf n1 g1 ++ gsOf n2 g2 ++ gsOf (n3 * 4) g3) w w' := by
  have QS : Hid (∀ W gs, Kept gs (w.alloc (.cells #[.slice A1 n1 c1, .slice A2 n2 c2, .slice A3 n3 c3, .int .i64 t, .int .i64 r] 49)) W → w.heap.size ∉ gs → W.cell? ⟨w.heap.size, 0, none⟩ = some (.slice A1 n1 c1) ∧ W.cell? ⟨w.heap.size, 1, none⟩ = some (.slice A2 n2 c2) ∧ W.cell? ⟨w.heap.size, 2, none⟩ = some (.slice A3 n3 c3) ∧ W.cell? ⟨w.heap.size, 3, none⟩ = some (.int .i64 t) ∧ W.cell? ⟨w.heap.size, 4, none⟩ = some (.int .i64 r)) := fun W gs hK hn => by
    have k := (hK.2 w.heap.size (by simp) hn).trans (heap_alloc_new w (.cells #[.slice A1 n1 c1, .slice A2 n2 c2, .slice A3 n3 c3, .int .i64 t, .int .i64 r] 49))
    exact ⟨cell_of_row W _ 0 _ _ _ k, cell_of_row W _ 1 _ _ _ k, cell_of_row W _ 2 _ _ _ k, cell_of_row W _ 3 _ _ _ k, cell_of_row W _ 4 _ _ _ k⟩
  have B2 : Hid (Below w.heap.size w (w.alloc (.cells #[.slice A1 n1 c1, .slice A2 n2 c2, .slice A3 n3 c3, .int .i64 t, .int .i64 r] 49))) := below_new w _
  have S2 : Hid ((w.alloc (.cells #[.slice A1 n1 c1, .slice A2 n2 c2, .slice A3 n3 c3, .int .i64 t, .int .i64 r] 49)).heap.size = w.heap.size + 1) := by show _ = _; simp
  have M1 := Lib.hid (h1.below B2.out (by omega)); have M2 := Lib.hid (h2.below B2.out (by omega)); have M3 := Lib.hid (h3.below B2.out (by omega))
  have D12 := Lib.hid d12; have D13 := Lib.hid d13; have D23 := Lib.hid d23
  clear h1 h2 h3 d12 d13 d23
  go_enter Tryz.func87, Tryz.ntmps87
  go_wp2_with fail
  refine (markInt64S_kept g1 A1 n1 c1 x1 m _ (by omega) (by omega) M1.out).mono ?_
  rintro e w1 ⟨rfl, u1, k1⟩
  have N2 := Lib.hid (M2.out.keptOf k1 D12.out)
  have N3 := Lib.hid (M3.out.keptOf k1 (fun a b => D13.out a (by omega)))
  obtain ⟨x0, x1', x2', x3', x4⟩ := QS.out _ _ k1 (gs_notin (by omega))
  have U1 := Lib.hid u1; have HK1 := Lib.hid k1
  clear u1 k1 M1 M2 M3
  go_wp2_with fail
  refine (markBoolS_kept g2 A2 n2 c2 x2 (m + n1) _ (by omega) (by omega) N2.out).mono ?_
  rintro e w2 ⟨rfl, u2, k2⟩
  have V1 := Lib.hid (U1.out.keptOf k2 (fun a b => (D12.out b a).symm))
  have V3 := Lib.hid (N3.out.keptOf k2 (fun a b => D23.out a (by omega)))
  have k12 := (HK1.out.mono (gs' := gsOf n1 g1 ++ gsOf n2 g2) (fun b h _ => List.mem_append_left _ h)).trans (k2.mono (fun b h _ => List.mem_append_right _ h))
  obtain ⟨y0, y1', y2', y3', y4⟩ := QS.out _ _ k12 (by rw [List.mem_append]; rintro (h | h); exact gs_notin (by omega) h; exact gs_notin (by omega) h)
  have U2 := Lib.hid u2; have HK2 := Lib.hid k12
  clear u2 k2 k12 U1 N2 N3 x0 x1' x2' x3' x4 HK1
  go_wp2_with fail
  refine (markAccountS_kept g3 A3 n3 c3 x3 (m + n1 + n2) _ (by omega) (by omega) V3.out).mono ?_
  rintro e w3 ⟨rfl, u3, k3⟩
  have Y1 := Lib.hid (V1.out.keptOf k3 (fun a b => (D13.out b (by omega)).symm))
  have Y2 := Lib.hid (U2.out.keptOf k3 (fun a b => (D23.out b (by omega)).symm))
  have k13 := (HK2.out.mono (gs' := gsOf n1 g1 ++ gsOf n2 g2 ++ gsOf (n3 * 4) g3) (fun b h _ => List.mem_append_left _ h)).trans (k3.mono (fun b h _ => List.mem_append_right _ h))
  have Y3 := Lib.hid u3
  have KF := Lib.hid ((Kept.of_below B2.out _).trans k13)
  clear u3 k3 k13 V1 V3 U2 HK2 y0 y1' y2' y3' y4
  go_wp2
  go_ret
  exact ⟨rfl, Y1.out, Y2.out, Y3.out, KF.out⟩

end Go.Proofs.YtkhphkfbjbhgaaaGreat
