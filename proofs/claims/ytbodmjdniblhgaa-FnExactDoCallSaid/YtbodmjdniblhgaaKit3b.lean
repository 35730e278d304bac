/-
  The laws' helpers on kernels and on answers of chapter 3: copy, compare, mark, look again: what each does. No conditions beyond that the lists can be read.
-/
import Derived.Test.YtbodmjdniblhgaaKit3
import Derived.Test.YtbodmjdniblhgaaInts
import Derived.Test.YtbodmjdniblhgaaBools
import Derived.Test.YtbodmjdniblhgaaKer3
namespace Go.Proofs.Ytbodmjdniblhgaa
open Go.RowKit

theorem eqNote_same (a b c : Int) (w : World) :
    Calls Try.prog 61 #[.agg #[.int .i64 a, .int .i64 b, .int .i64 c], .agg #[.int .i64 a, .int .i64 b, .int .i64 c]] w fun e w' => e = .returned (.bool true) ∧ Below w.heap.size w w' := by
  have B2 : Hid (∀ o o', Below w.heap.size w ((w.alloc o).alloc o')) := fun o o' => ((Below.refl _ _).alloc (Nat.le_refl _) o).alloc (by simp) o'
  go_enter Try.func61, Try.ntmps61
  go_wp2
  go_ret
  exact ⟨rfl, B2.out _ _⟩

/-- eqNoteS of two slices that read alike: true. -/
theorem eqNoteS_same (lo hi lo' hi' : Nat) (A A' : Option Addr) (n c c' : Nat) (x : Nat → Int) (w : World) (hn : n * 24 ≤ 140737488351232)
    (h : Sl w lo hi A (n * 3) (fun k => .int .i64 (x k))) (h' : Sl w lo' hi' A' (n * 3) (fun k => .int .i64 (x k))) :
    Calls Try.prog 29 #[.slice A n c, .slice A' n c'] w fun e w' => e = .returned (.bool true) ∧ Below w.heap.size w w' := by
  have H := Lib.hid h
  have H' := Lib.hid h'
  clear h h'
  go_enter Try.func29, Try.ntmps29
  go_wp2
  go_loopw [5] (fun i wr => ∃ k : Nat, k ≤ n ∧ i = .int .i64 k ∧ Below w.heap.size w wr) (fun i _ => n - (intOf i).toNat)
  case atStart => exact ⟨0, Nat.zero_le _, rfl, Below.refl _ _⟩
  case round =>
    obtain ⟨k, hk, rfl, hb⟩ := hrel
    by_cases hlt : k < n
    · obtain ⟨b, off, rfl, h1, h2, hc⟩ := H.out.lt.at_ (show k * 3 < n * 3 by omega)
      obtain ⟨b', off', rfl, h1', h2', hc'⟩ := H'.out.lt.at_ (show k * 3 < n * 3 by omega)
      have p0 : wr.cell? ⟨b, off + k * 3, none⟩ = some (.int .i64 (x (k * 3))) := (hb.cell (p := ⟨b, off + (k * 3), none⟩) (by simp; omega)).trans (hc (k * 3) (by omega))
      have p1 : wr.cell? ⟨b, off + k * 3 + 1, none⟩ = some (.int .i64 (x (k * 3 + 1))) := (hb.cell (p := ⟨b, off + (k * 3 + 1), none⟩) (by simp; omega)).trans (hc (k * 3 + 1) (by omega))
      have p2 : wr.cell? ⟨b, off + k * 3 + 2, none⟩ = some (.int .i64 (x (k * 3 + 2))) := (hb.cell (p := ⟨b, off + (k * 3 + 2), none⟩) (by simp; omega)).trans (hc (k * 3 + 2) (by omega))
      have q0 : wr.cell? ⟨b', off' + k * 3, none⟩ = some (.int .i64 (x (k * 3))) := (hb.cell (p := ⟨b', off' + (k * 3), none⟩) (by simp; omega)).trans (hc' (k * 3) (by omega))
      have q1 : wr.cell? ⟨b', off' + k * 3 + 1, none⟩ = some (.int .i64 (x (k * 3 + 1))) := (hb.cell (p := ⟨b', off' + (k * 3 + 1), none⟩) (by simp; omega)).trans (hc' (k * 3 + 1) (by omega))
      have q2 : wr.cell? ⟨b', off' + k * 3 + 2, none⟩ = some (.int .i64 (x (k * 3 + 2))) := (hb.cell (p := ⟨b', off' + (k * 3 + 2), none⟩) (by simp; omega)).trans (hc' (k * 3 + 2) (by omega))
      have HB := Lib.hid hb
      clear hb hc hc' H H'
      go_wp2_with fail
      go_region_with (refine (eqNote_same _ _ _ _).mono ?_; rintro e w1 ⟨rfl, hb1⟩; have HB1 := Lib.hid ((below_drewN HB.out 1).trans (hb1.mono HB.out.size)); clear hb1)
      all_goals
        go_wp2
        go_roundw
        case rel => exact ⟨k + 1, by omega, by go_num, HB1.out⟩
        case measure => simp [intOf]; omega
    · go_wp2
      go_ret
      exact ⟨rfl, hb⟩

/-- markNoteS of a row of one's own: the row reads k, k + 1, .. afterwards; nothing else turns. -/
theorem markNoteS_any (lo hi : Nat) (A : Option Addr) (n c : Nat) (x : Nat → Value) (m : Nat) (w : World) (hn : n * 24 ≤ 140737488351232) (hm : m ≤ 2305843009213693952)
    (hx : ∀ k, k < n * 3 → ∃ y, x k = .int .i64 y) (h : Mine w lo hi 94 A (n * 3) x) :
    Calls Try.prog 36 #[.slice A n c, .int .i64 m] w fun e w' =>
      e = .returned (.int .i64 ((m + n * 3 : Nat) : Int)) ∧ Mine w' lo hi 94 A (n * 3) (fun k => .int .i64 ((m + k : Nat) : Int)) ∧ Only lo hi w w' := by
  have H := Lib.hid h
  have X := Lib.hid hx
  clear h hx
  go_enter Try.func36, Try.ntmps36
  go_wp2
  go_loopw [1, 5] (fun q i wr => ∃ k : Nat, k ≤ n ∧ i = .int .i64 k ∧ q = .int .i64 ((m + k * 3 : Nat) : Int) ∧ Mine wr lo hi 94 A (n * 3) (fun j => if j < k * 3 then .int .i64 ((m + j : Nat) : Int) else x j) ∧ Only lo hi w wr) (fun _ i _ => n - (intOf i).toNat)
  case atStart => exact ⟨0, Nat.zero_le _, rfl, by go_num, H.out.congr (fun k hk => by simp), Only.refl _ _ _⟩
  case round =>
    obtain ⟨k, hk, rfl, rfl, hmine, hb⟩ := hrel
    by_cases hlt : k < n
    · rcases hmine with h0 | ⟨g, off, rfl, h1, h2, hrow⟩
      · omega
      obtain ⟨y0, hy0⟩ := X.out (k * 3 + 0) (by omega)
      have o0 : wr.cell? ⟨g, off + k * 3, none⟩ = some (.int .i64 y0) := by
        have := hrow.cell (show k * 3 + 0 < n * 3 by omega)
        rw [if_neg (by omega), hy0] at this
        exact this
      have f0 := hrow.frozen (off + k * 3)
      obtain ⟨y1, hy1⟩ := X.out (k * 3 + 1) (by omega)
      have o1 : wr.cell? ⟨g, off + k * 3 + 1, none⟩ = some (.int .i64 y1) := by
        have := hrow.cell (show k * 3 + 1 < n * 3 by omega)
        rw [if_neg (by omega), hy1] at this
        exact this
      have f1 := hrow.frozen (off + k * 3 + 1)
      obtain ⟨y2, hy2⟩ := X.out (k * 3 + 2) (by omega)
      have o2 : wr.cell? ⟨g, off + k * 3 + 2, none⟩ = some (.int .i64 y2) := by
        have := hrow.cell (show k * 3 + 2 < n * 3 by omega)
        rw [if_neg (by omega), hy2] at this
        exact this
      have f2 := hrow.frozen (off + k * 3 + 2)
      have e0 : ((m + k * 3 : Nat) : Int) = (m : Int) + k * 3 := by omega
      have HR := Lib.hid (hrow.mark3 hlt)
      have HB := Lib.hid (hb.set3 (g := g) (i := off + k * 3) h1 h2 (.int .i64 ((m : Int) + k * 3)) (.int .i64 ((m : Int) + k * 3 + 1)) (.int .i64 ((m : Int) + k * 3 + 1 + 1)))
      rw [e0]
      clear e0 hb hrow H X hy0 hy1 hy2
      go_wp2
      go_roundw
      case rel => exact ⟨k + 1, by omega, by go_num, by go_num, .inr ⟨g, off, rfl, h1, h2, HR.out⟩, HB.out⟩
      case measure => simp [intOf]; omega
    · have e0 : k = n := by omega
      subst e0
      go_wp2
      go_ret
      exact ⟨rfl, hmine.congr (fun j hj => by rw [if_pos hj]), hb⟩

/-- heldNoteS of a slice that reads m, m + 1, ..: m + n * 3. -/
theorem heldNoteS_any (lo hi : Nat) (A : Option Addr) (n c : Nat) (m : Nat) (w : World) (hn : n * 24 ≤ 140737488351232) (hm : m ≤ 2305843009213693952)
    (h : Sl w lo hi A (n * 3) (fun k => .int .i64 ((m + k : Nat) : Int))) :
    Calls Try.prog 38 #[.slice A n c, .int .i64 m] w fun e w' => e = .returned (.int .i64 ((m + n * 3 : Nat) : Int)) ∧ Below w.heap.size w w' := by
  have H := Lib.hid h
  clear h
  go_enter Try.func38, Try.ntmps38
  go_wp2
  go_loopw [1, 5] (fun q i wr => ∃ k : Nat, k ≤ n ∧ i = .int .i64 k ∧ q = .int .i64 ((m + k * 3 : Nat) : Int) ∧ Below w.heap.size w wr) (fun _ i _ => n - (intOf i).toNat)
  case atStart => exact ⟨0, Nat.zero_le _, rfl, by go_num, Below.refl _ _⟩
  case round =>
    obtain ⟨k, hk, rfl, rfl, hb⟩ := hrel
    by_cases hlt : k < n
    · obtain ⟨b, off, rfl, h1, h2, hc⟩ := H.out.lt.at_ (show k * 3 < n * 3 by omega)
      have c0 : wr.cell? ⟨b, off + k * 3, none⟩ = some (.int .i64 ((m : Int) + k * 3)) := by
        rw [show ((m : Int) + k * 3 : Int) = ((m + (k * 3) : Nat) : Int) by omega]
        exact (hb.cell (p := ⟨b, off + (k * 3), none⟩) (by simp; omega)).trans (hc (k * 3) (by omega))
      have c1 : wr.cell? ⟨b, off + k * 3 + 1, none⟩ = some (.int .i64 ((m : Int) + k * 3 + 1)) := by
        rw [show ((m : Int) + k * 3 + 1 : Int) = ((m + (k * 3 + 1) : Nat) : Int) by omega]
        exact (hb.cell (p := ⟨b, off + (k * 3 + 1), none⟩) (by simp; omega)).trans (hc (k * 3 + 1) (by omega))
      have c2 : wr.cell? ⟨b, off + k * 3 + 2, none⟩ = some (.int .i64 ((m : Int) + k * 3 + 1 + 1)) := by
        rw [show ((m : Int) + k * 3 + 1 + 1 : Int) = ((m + (k * 3 + 2) : Nat) : Int) by omega]
        exact (hb.cell (p := ⟨b, off + (k * 3 + 2), none⟩) (by simp; omega)).trans (hc (k * 3 + 2) (by omega))
      have HB := Lib.hid hb
      have e0 : ((m + k * 3 : Nat) : Int) = (m : Int) + k * 3 := by omega
      rw [e0]
      clear e0 hb hc H
      go_wp2
      go_roundw
      case rel => exact ⟨k + 1, by omega, by go_num, by go_num, HB.out⟩
      case measure => simp [intOf]; omega
    · have e0 : k = n := by omega
      subst e0
      go_wp2
      go_ret
      exact ⟨rfl, hb⟩

/-- eqKernel of two kernels that read alike: true. -/
theorem eqKernel_same (lo hi lo' hi' : Nat) (A1 : Option Addr) (n1 c1 : Nat) (A2 : Option Addr) (n2 c2 : Nat) (A3 : Option Addr) (n3 c3 : Nat) (A1' : Option Addr) (c1' : Nat) (A2' : Option Addr) (c2' : Nat) (A3' : Option Addr) (c3' : Nat) (t r : Int) (K : Ker) (w : World) (hn1 : n1 * 8 ≤ 140737488351232) (hn2 : n2 * 8 ≤ 140737488351232) (hn3 : n3 * 32 ≤ 140737488351232)
    (h : KRead w lo hi A1 n1 A2 n2 A3 n3 K) (h' : KRead w lo' hi' A1' n1 A2' n2 A3' n3 K) :
    Calls Try.prog 10 #[.agg #[.slice A1 n1 c1, .slice A2 n2 c2, .slice A3 n3 c3, .int .i64 t, .int .i64 r], .agg #[.slice A1' n1 c1', .slice A2' n2 c2', .slice A3' n3 c3', .int .i64 t, .int .i64 r]] w fun e w' => e = .returned (.bool true) ∧ Below w.heap.size w w' := by
  have K1 : Hid (((w.alloc (.cells #[.slice A1 n1 c1, .slice A2 n2 c2, .slice A3 n3 c3, .int .i64 t, .int .i64 r] 32)).alloc (.cells #[.slice A1' n1 c1', .slice A2' n2 c2', .slice A3' n3 c3', .int .i64 t, .int .i64 r] 32)).heap[w.heap.size]? = some (.cells #[.slice A1 n1 c1, .slice A2 n2 c2, .slice A3 n3 c3, .int .i64 t, .int .i64 r] 32 (0, 0))) := heap_alloc2_old w _ _
  have K2 : Hid (((w.alloc (.cells #[.slice A1 n1 c1, .slice A2 n2 c2, .slice A3 n3 c3, .int .i64 t, .int .i64 r] 32)).alloc (.cells #[.slice A1' n1 c1', .slice A2' n2 c2', .slice A3' n3 c3', .int .i64 t, .int .i64 r] 32)).heap[w.heap.size + 1]? = some (.cells #[.slice A1' n1 c1', .slice A2' n2 c2', .slice A3' n3 c3', .int .i64 t, .int .i64 r] 32 (0, 0))) := heap_alloc2_new w _ _
  have B2 : Hid (Below w.heap.size w ((w.alloc (.cells #[.slice A1 n1 c1, .slice A2 n2 c2, .slice A3 n3 c3, .int .i64 t, .int .i64 r] 32)).alloc (.cells #[.slice A1' n1 c1', .slice A2' n2 c2', .slice A3' n3 c3', .int .i64 t, .int .i64 r] 32))) := ((Below.refl _ _).alloc (Nat.le_refl _) _).alloc (by simp) _
  have Q1 : Hid (∀ W, Below (w.heap.size + 2) ((w.alloc (.cells #[.slice A1 n1 c1, .slice A2 n2 c2, .slice A3 n3 c3, .int .i64 t, .int .i64 r] 32)).alloc (.cells #[.slice A1' n1 c1', .slice A2' n2 c2', .slice A3' n3 c3', .int .i64 t, .int .i64 r] 32)) W → W.cell? ⟨w.heap.size, 0, none⟩ = some (.slice A1 n1 c1) ∧ W.cell? ⟨w.heap.size, 1, none⟩ = some (.slice A2 n2 c2) ∧ W.cell? ⟨w.heap.size, 2, none⟩ = some (.slice A3 n3 c3) ∧ W.cell? ⟨w.heap.size, 3, none⟩ = some (.int .i64 t) ∧ W.cell? ⟨w.heap.size, 4, none⟩ = some (.int .i64 r)) := fun W hB => ⟨cell_of_row W _ 0 _ _ _ ((hB.block _ (by simp; try omega)).trans K1.out), cell_of_row W _ 1 _ _ _ ((hB.block _ (by simp; try omega)).trans K1.out), cell_of_row W _ 2 _ _ _ ((hB.block _ (by simp; try omega)).trans K1.out), cell_of_row W _ 3 _ _ _ ((hB.block _ (by simp; try omega)).trans K1.out), cell_of_row W _ 4 _ _ _ ((hB.block _ (by simp; try omega)).trans K1.out)⟩
  have Q2 : Hid (∀ W, Below (w.heap.size + 2) ((w.alloc (.cells #[.slice A1 n1 c1, .slice A2 n2 c2, .slice A3 n3 c3, .int .i64 t, .int .i64 r] 32)).alloc (.cells #[.slice A1' n1 c1', .slice A2' n2 c2', .slice A3' n3 c3', .int .i64 t, .int .i64 r] 32)) W → W.cell? ⟨(w.heap.size + 1), 0, none⟩ = some (.slice A1' n1 c1') ∧ W.cell? ⟨(w.heap.size + 1), 1, none⟩ = some (.slice A2' n2 c2') ∧ W.cell? ⟨(w.heap.size + 1), 2, none⟩ = some (.slice A3' n3 c3') ∧ W.cell? ⟨(w.heap.size + 1), 3, none⟩ = some (.int .i64 t) ∧ W.cell? ⟨(w.heap.size + 1), 4, none⟩ = some (.int .i64 r)) := fun W hB => ⟨cell_of_row W _ 0 _ _ _ ((hB.block _ (by simp; try omega)).trans K2.out), cell_of_row W _ 1 _ _ _ ((hB.block _ (by simp; try omega)).trans K2.out), cell_of_row W _ 2 _ _ _ ((hB.block _ (by simp; try omega)).trans K2.out), cell_of_row W _ 3 _ _ _ ((hB.block _ (by simp; try omega)).trans K2.out), cell_of_row W _ 4 _ _ _ ((hB.block _ (by simp; try omega)).trans K2.out)⟩
  have R := Lib.hid (h.lt.below B2.out (Nat.min_le_right _ _))
  have R' := Lib.hid (h'.lt.below B2.out (Nat.min_le_right _ _))
  have H0 : Hid (Below (w.heap.size + 2) ((w.alloc (.cells #[.slice A1 n1 c1, .slice A2 n2 c2, .slice A3 n3 c3, .int .i64 t, .int .i64 r] 32)).alloc (.cells #[.slice A1' n1 c1', .slice A2' n2 c2', .slice A3' n3 c3', .int .i64 t, .int .i64 r] 32)) ((w.alloc (.cells #[.slice A1 n1 c1, .slice A2 n2 c2, .slice A3 n3 c3, .int .i64 t, .int .i64 r] 32)).alloc (.cells #[.slice A1' n1 c1', .slice A2' n2 c2', .slice A3' n3 c3', .int .i64 t, .int .i64 r] 32))) := Below.refl _ _
  have S2 : Hid (((w.alloc (.cells #[.slice A1 n1 c1, .slice A2 n2 c2, .slice A3 n3 c3, .int .i64 t, .int .i64 r] 32)).alloc (.cells #[.slice A1' n1 c1', .slice A2' n2 c2', .slice A3' n3 c3', .int .i64 t, .int .i64 r] 32)).heap.size = w.heap.size + 2) := by show _ = _; simp
  clear h h' K1 K2
  go_enter Try.func10, Try.ntmps10
  go_wp2_with fail
  refine (eqInt64S_same lo (min hi w.heap.size) lo' (min hi' w.heap.size) A1 A1' n1 c1 c1' (gi K.os) _ (by omega) (R.out.below H0.out (by omega)).2.1 (R'.out.below H0.out (by omega)).2.1).mono ?_
  rintro e w1 ⟨rfl, hb⟩
  have sz := H0.out.size
  have sz2 := S2.out
  have Hw1 := Lib.hid (H0.out.trans (hb.mono (by omega)))
  obtain ⟨x0, x1, x2, x3, x4⟩ := Q1.out _ Hw1.out
  obtain ⟨y0, y1, y2, y3, y4⟩ := Q2.out _ Hw1.out
  clear hb sz sz2
  go_wp2_with fail
  refine (eqBoolS_same lo (min hi w.heap.size) lo' (min hi' w.heap.size) A2 A2' n2 c2 c2' (gb K.al) _ (by omega) (R.out.below Hw1.out (by omega)).2.2.1 (R'.out.below Hw1.out (by omega)).2.2.1).mono ?_
  rintro e w2 ⟨rfl, hb⟩
  have sz := Hw1.out.size
  have sz2 := S2.out
  have Hw2 := Lib.hid (Hw1.out.trans (hb.mono (by omega)))
  obtain ⟨x0, x1, x2, x3, x4⟩ := Q1.out _ Hw2.out
  obtain ⟨y0, y1, y2, y3, y4⟩ := Q2.out _ Hw2.out
  clear hb sz sz2
  go_wp2_with fail
  refine (eqAccountS_same lo (min hi w.heap.size) lo' (min hi' w.heap.size) A3 A3' n3 c3 c3' (gi K.ac) _ (by omega) (R.out.below Hw2.out (by omega)).2.2.2 (R'.out.below Hw2.out (by omega)).2.2.2).mono ?_
  rintro e w3 ⟨rfl, hb⟩
  have sz := Hw2.out.size
  have sz2 := S2.out
  have Hw3 := Lib.hid (Hw2.out.trans (hb.mono (by omega)))
  obtain ⟨x0, x1, x2, x3, x4⟩ := Q1.out _ Hw3.out
  obtain ⟨y0, y1, y2, y3, y4⟩ := Q2.out _ Hw3.out
  clear hb sz sz2
  go_wp2
  go_ret
  exact ⟨rfl, B2.out.trans (Hw3.out.mono (by omega))⟩

/-- eqKernelResult of two answers that read alike: true. -/
theorem eqKernelResult_same (lo hi lo' hi' : Nat) (A1 : Option Addr) (n1 c1 : Nat) (A2 : Option Addr) (n2 c2 : Nat) (A3 : Option Addr) (n3 c3 : Nat) (A4 : Option Addr) (n4 c4 : Nat) (A1' : Option Addr) (c1' : Nat) (A2' : Option Addr) (c2' : Nat) (A3' : Option Addr) (c3' : Nat) (A4' : Option Addr) (c4' : Nat) (q t r : Int) (K : Ker) (ns : List Int) (w : World) (hn1 : n1 * 8 ≤ 140737488351232) (hn2 : n2 * 8 ≤ 140737488351232) (hn3 : n3 * 32 ≤ 140737488351232) (hn4 : n4 * 24 ≤ 140737488351232)
    (h : KRead w lo hi A1 n1 A2 n2 A3 n3 K) (h' : KRead w lo' hi' A1' n1 A2' n2 A3' n3 K) (g : Sl w lo hi A4 (n4 * 3) (fun k => .int .i64 (gi ns k))) (g' : Sl w lo' hi' A4' (n4 * 3) (fun k => .int .i64 (gi ns k))) :
    Calls Try.prog 9 #[.agg #[.int .i64 q, .slice A1 n1 c1, .slice A2 n2 c2, .slice A3 n3 c3, .int .i64 t, .int .i64 r, .slice A4 n4 c4], .agg #[.int .i64 q, .slice A1' n1 c1', .slice A2' n2 c2', .slice A3' n3 c3', .int .i64 t, .int .i64 r, .slice A4' n4 c4']] w fun e w' => e = .returned (.bool true) ∧ Below w.heap.size w w' := by
  have K1 : Hid (((w.alloc (.cells #[.int .i64 q, .slice A1 n1 c1, .slice A2 n2 c2, .slice A3 n3 c3, .int .i64 t, .int .i64 r, .slice A4 n4 c4] 35)).alloc (.cells #[.int .i64 q, .slice A1' n1 c1', .slice A2' n2 c2', .slice A3' n3 c3', .int .i64 t, .int .i64 r, .slice A4' n4 c4'] 35)).heap[w.heap.size]? = some (.cells #[.int .i64 q, .slice A1 n1 c1, .slice A2 n2 c2, .slice A3 n3 c3, .int .i64 t, .int .i64 r, .slice A4 n4 c4] 35 (0, 0))) := heap_alloc2_old w _ _
  have K2 : Hid (((w.alloc (.cells #[.int .i64 q, .slice A1 n1 c1, .slice A2 n2 c2, .slice A3 n3 c3, .int .i64 t, .int .i64 r, .slice A4 n4 c4] 35)).alloc (.cells #[.int .i64 q, .slice A1' n1 c1', .slice A2' n2 c2', .slice A3' n3 c3', .int .i64 t, .int .i64 r, .slice A4' n4 c4'] 35)).heap[w.heap.size + 1]? = some (.cells #[.int .i64 q, .slice A1' n1 c1', .slice A2' n2 c2', .slice A3' n3 c3', .int .i64 t, .int .i64 r, .slice A4' n4 c4'] 35 (0, 0))) := heap_alloc2_new w _ _
  have B2 : Hid (Below w.heap.size w ((w.alloc (.cells #[.int .i64 q, .slice A1 n1 c1, .slice A2 n2 c2, .slice A3 n3 c3, .int .i64 t, .int .i64 r, .slice A4 n4 c4] 35)).alloc (.cells #[.int .i64 q, .slice A1' n1 c1', .slice A2' n2 c2', .slice A3' n3 c3', .int .i64 t, .int .i64 r, .slice A4' n4 c4'] 35))) := ((Below.refl _ _).alloc (Nat.le_refl _) _).alloc (by simp) _
  have Q1 : Hid (∀ W, Below (w.heap.size + 2) ((w.alloc (.cells #[.int .i64 q, .slice A1 n1 c1, .slice A2 n2 c2, .slice A3 n3 c3, .int .i64 t, .int .i64 r, .slice A4 n4 c4] 35)).alloc (.cells #[.int .i64 q, .slice A1' n1 c1', .slice A2' n2 c2', .slice A3' n3 c3', .int .i64 t, .int .i64 r, .slice A4' n4 c4'] 35)) W → W.cell? ⟨w.heap.size, 0, none⟩ = some (.int .i64 q) ∧ W.cell? ⟨w.heap.size, 1, none⟩ = some (.slice A1 n1 c1) ∧ W.cell? ⟨w.heap.size, 2, none⟩ = some (.slice A2 n2 c2) ∧ W.cell? ⟨w.heap.size, 3, none⟩ = some (.slice A3 n3 c3) ∧ W.cell? ⟨w.heap.size, 4, none⟩ = some (.int .i64 t) ∧ W.cell? ⟨w.heap.size, 5, none⟩ = some (.int .i64 r) ∧ W.cell? ⟨w.heap.size, 6, none⟩ = some (.slice A4 n4 c4)) := fun W hB => ⟨cell_of_row W _ 0 _ _ _ ((hB.block _ (by simp; try omega)).trans K1.out), cell_of_row W _ 1 _ _ _ ((hB.block _ (by simp; try omega)).trans K1.out), cell_of_row W _ 2 _ _ _ ((hB.block _ (by simp; try omega)).trans K1.out), cell_of_row W _ 3 _ _ _ ((hB.block _ (by simp; try omega)).trans K1.out), cell_of_row W _ 4 _ _ _ ((hB.block _ (by simp; try omega)).trans K1.out), cell_of_row W _ 5 _ _ _ ((hB.block _ (by simp; try omega)).trans K1.out), cell_of_row W _ 6 _ _ _ ((hB.block _ (by simp; try omega)).trans K1.out)⟩
  have Q2 : Hid (∀ W, Below (w.heap.size + 2) ((w.alloc (.cells #[.int .i64 q, .slice A1 n1 c1, .slice A2 n2 c2, .slice A3 n3 c3, .int .i64 t, .int .i64 r, .slice A4 n4 c4] 35)).alloc (.cells #[.int .i64 q, .slice A1' n1 c1', .slice A2' n2 c2', .slice A3' n3 c3', .int .i64 t, .int .i64 r, .slice A4' n4 c4'] 35)) W → W.cell? ⟨(w.heap.size + 1), 0, none⟩ = some (.int .i64 q) ∧ W.cell? ⟨(w.heap.size + 1), 1, none⟩ = some (.slice A1' n1 c1') ∧ W.cell? ⟨(w.heap.size + 1), 2, none⟩ = some (.slice A2' n2 c2') ∧ W.cell? ⟨(w.heap.size + 1), 3, none⟩ = some (.slice A3' n3 c3') ∧ W.cell? ⟨(w.heap.size + 1), 4, none⟩ = some (.int .i64 t) ∧ W.cell? ⟨(w.heap.size + 1), 5, none⟩ = some (.int .i64 r) ∧ W.cell? ⟨(w.heap.size + 1), 6, none⟩ = some (.slice A4' n4 c4')) := fun W hB => ⟨cell_of_row W _ 0 _ _ _ ((hB.block _ (by simp; try omega)).trans K2.out), cell_of_row W _ 1 _ _ _ ((hB.block _ (by simp; try omega)).trans K2.out), cell_of_row W _ 2 _ _ _ ((hB.block _ (by simp; try omega)).trans K2.out), cell_of_row W _ 3 _ _ _ ((hB.block _ (by simp; try omega)).trans K2.out), cell_of_row W _ 4 _ _ _ ((hB.block _ (by simp; try omega)).trans K2.out), cell_of_row W _ 5 _ _ _ ((hB.block _ (by simp; try omega)).trans K2.out), cell_of_row W _ 6 _ _ _ ((hB.block _ (by simp; try omega)).trans K2.out)⟩
  have R := Lib.hid (h.lt.below B2.out (Nat.min_le_right _ _))
  have R' := Lib.hid (h'.lt.below B2.out (Nat.min_le_right _ _))
  have G := Lib.hid (g.lt.below B2.out (Nat.min_le_right _ _))
  have G' := Lib.hid (g'.lt.below B2.out (Nat.min_le_right _ _))
  have H0 : Hid (Below (w.heap.size + 2) ((w.alloc (.cells #[.int .i64 q, .slice A1 n1 c1, .slice A2 n2 c2, .slice A3 n3 c3, .int .i64 t, .int .i64 r, .slice A4 n4 c4] 35)).alloc (.cells #[.int .i64 q, .slice A1' n1 c1', .slice A2' n2 c2', .slice A3' n3 c3', .int .i64 t, .int .i64 r, .slice A4' n4 c4'] 35)) ((w.alloc (.cells #[.int .i64 q, .slice A1 n1 c1, .slice A2 n2 c2, .slice A3 n3 c3, .int .i64 t, .int .i64 r, .slice A4 n4 c4] 35)).alloc (.cells #[.int .i64 q, .slice A1' n1 c1', .slice A2' n2 c2', .slice A3' n3 c3', .int .i64 t, .int .i64 r, .slice A4' n4 c4'] 35))) := Below.refl _ _
  have S2 : Hid (((w.alloc (.cells #[.int .i64 q, .slice A1 n1 c1, .slice A2 n2 c2, .slice A3 n3 c3, .int .i64 t, .int .i64 r, .slice A4 n4 c4] 35)).alloc (.cells #[.int .i64 q, .slice A1' n1 c1', .slice A2' n2 c2', .slice A3' n3 c3', .int .i64 t, .int .i64 r, .slice A4' n4 c4'] 35)).heap.size = w.heap.size + 2) := by show _ = _; simp
  clear h h' g g' K1 K2
  obtain ⟨x0, x1, x2, x3, x4, x5, x6⟩ := Q1.out _ H0.out
  obtain ⟨y0, y1, y2, y3, y4, y5, y6⟩ := Q2.out _ H0.out
  go_enter Try.func9, Try.ntmps9
  go_wp2_with fail
  refine (eqKernel_same lo (min hi w.heap.size) lo' (min hi' w.heap.size) A1 n1 c1 A2 n2 c2 A3 n3 c3 A1' c1' A2' c2' A3' c3' t r K _ hn1 hn2 hn3 R.out R'.out).mono ?_
  rintro e w1 ⟨rfl, hb⟩
  have sz2 := S2.out
  have Hw1 := Lib.hid (H0.out.trans (hb.mono (by omega)))
  clear hb sz2 x0  x1  x2  x3  x4  x5  x6 y0  y1  y2  y3  y4  y5  y6
  obtain ⟨x0, x1, x2, x3, x4, x5, x6⟩ := Q1.out _ Hw1.out
  obtain ⟨y0, y1, y2, y3, y4, y5, y6⟩ := Q2.out _ Hw1.out
  go_wp2_with fail
  refine (eqNoteS_same lo (min hi w.heap.size) lo' (min hi' w.heap.size) A4 A4' n4 c4 c4' (gi ns) _ (by omega) (G.out.below Hw1.out (by omega)) (G'.out.below Hw1.out (by omega))).mono ?_
  rintro e w2 ⟨rfl, hb⟩
  have sz := Hw1.out.size
  have sz2 := S2.out
  have Hw2 := Lib.hid (Hw1.out.trans (hb.mono (by omega)))
  clear hb sz sz2
  go_wp2
  go_ret
  exact ⟨rfl, B2.out.trans (Hw2.out.mono (by omega))⟩

/-- heldKernel of a kernel that reads m, m + 1, ..: what comes next. -/
theorem heldKernel_any (lo hi : Nat) (A1 : Option Addr) (n1 c1 : Nat) (A2 : Option Addr) (n2 c2 : Nat) (A3 : Option Addr) (n3 c3 : Nat) (t r : Int) (m : Nat) (w : World) (hn1 : n1 * 8 ≤ 140737488351232) (hn2 : n2 * 8 ≤ 140737488351232) (hn3 : n3 * 32 ≤ 140737488351232) (hm : m ≤ 1152921504606846976)
    (h1 : Sl w lo hi A1 n1 (fun k => .int .i64 ((m + k : Nat) : Int))) (h2 : Sl w lo hi A2 n2 (fun k => .bool (m3 (m + n1 + k)))) (h3 : Sl w lo hi A3 (n3 * 4) (fun k => .int .i64 ((m + n1 + n2 + k : Nat) : Int))) :
    Calls Try.prog 37 #[.agg #[.slice A1 n1 c1, .slice A2 n2 c2, .slice A3 n3 c3, .int .i64 t, .int .i64 r], .int .i64 m] w fun e w' => e = .returned (.int .i64 ((m + n1 + n2 + n3 * 4 : Nat) : Int)) ∧ Below w.heap.size w w' := by
  have K1 : Hid ((w.alloc (.cells #[.slice A1 n1 c1, .slice A2 n2 c2, .slice A3 n3 c3, .int .i64 t, .int .i64 r] 32)).heap[w.heap.size]? = some (.cells #[.slice A1 n1 c1, .slice A2 n2 c2, .slice A3 n3 c3, .int .i64 t, .int .i64 r] 32 (0, 0))) := heap_alloc_new w _
  have B2 : Hid (Below w.heap.size w (w.alloc (.cells #[.slice A1 n1 c1, .slice A2 n2 c2, .slice A3 n3 c3, .int .i64 t, .int .i64 r] 32))) := below_new w _
  have Q1 : Hid (∀ W, Below (w.heap.size + 1) (w.alloc (.cells #[.slice A1 n1 c1, .slice A2 n2 c2, .slice A3 n3 c3, .int .i64 t, .int .i64 r] 32)) W → W.cell? ⟨w.heap.size, 0, none⟩ = some (.slice A1 n1 c1) ∧ W.cell? ⟨w.heap.size, 1, none⟩ = some (.slice A2 n2 c2) ∧ W.cell? ⟨w.heap.size, 2, none⟩ = some (.slice A3 n3 c3) ∧ W.cell? ⟨w.heap.size, 3, none⟩ = some (.int .i64 t) ∧ W.cell? ⟨w.heap.size, 4, none⟩ = some (.int .i64 r)) := fun W hB => ⟨cell_of_row W _ 0 _ _ _ ((hB.block _ (by simp; try omega)).trans K1.out), cell_of_row W _ 1 _ _ _ ((hB.block _ (by simp; try omega)).trans K1.out), cell_of_row W _ 2 _ _ _ ((hB.block _ (by simp; try omega)).trans K1.out), cell_of_row W _ 3 _ _ _ ((hB.block _ (by simp; try omega)).trans K1.out), cell_of_row W _ 4 _ _ _ ((hB.block _ (by simp; try omega)).trans K1.out)⟩
  have P1 := Lib.hid (h1.lt.below B2.out (Nat.min_le_right _ _)); have P2 := Lib.hid (h2.lt.below B2.out (Nat.min_le_right _ _)); have P3 := Lib.hid (h3.lt.below B2.out (Nat.min_le_right _ _))
  have H0 : Hid (Below (w.heap.size + 1) (w.alloc (.cells #[.slice A1 n1 c1, .slice A2 n2 c2, .slice A3 n3 c3, .int .i64 t, .int .i64 r] 32)) (w.alloc (.cells #[.slice A1 n1 c1, .slice A2 n2 c2, .slice A3 n3 c3, .int .i64 t, .int .i64 r] 32))) := Below.refl _ _
  have S2 : Hid ((w.alloc (.cells #[.slice A1 n1 c1, .slice A2 n2 c2, .slice A3 n3 c3, .int .i64 t, .int .i64 r] 32)).heap.size = w.heap.size + 1) := by show _ = _; simp
  clear h1 h2 h3 K1
  go_enter Try.func37, Try.ntmps37
  go_wp2_with fail
  refine (heldInt64S_any lo (min hi w.heap.size) A1 n1 c1 m _ (by omega) (by omega) (P1.out.below H0.out (by omega))).mono ?_
  rintro e w1 ⟨rfl, hb⟩
  have sz := H0.out.size
  have sz2 := S2.out
  have Hw1 := Lib.hid (H0.out.trans (hb.mono (by omega)))
  obtain ⟨x0, x1, x2, x3, x4⟩ := Q1.out _ Hw1.out
  clear hb sz sz2
  go_wp2_with fail
  refine (heldBoolS_any lo (min hi w.heap.size) A2 n2 c2 (m + n1) _ (by omega) (by omega) (P2.out.below Hw1.out (by omega))).mono ?_
  rintro e w2 ⟨rfl, hb⟩
  have sz := Hw1.out.size
  have sz2 := S2.out
  have Hw2 := Lib.hid (Hw1.out.trans (hb.mono (by omega)))
  obtain ⟨x0, x1, x2, x3, x4⟩ := Q1.out _ Hw2.out
  clear hb sz sz2
  go_wp2_with fail
  refine (heldAccountS_any lo (min hi w.heap.size) A3 n3 c3 (m + n1 + n2) _ (by omega) (by omega) (P3.out.below Hw2.out (by omega))).mono ?_
  rintro e w3 ⟨rfl, hb⟩
  have sz := Hw2.out.size
  have sz2 := S2.out
  have Hw3 := Lib.hid (Hw2.out.trans (hb.mono (by omega)))
  obtain ⟨x0, x1, x2, x3, x4⟩ := Q1.out _ Hw3.out
  clear hb sz sz2
  go_wp2
  go_ret
  exact ⟨rfl, B2.out.trans (Hw3.out.mono (by omega))⟩

theorem heldKernelResult_any (lo hi : Nat) (A1 : Option Addr) (n1 c1 : Nat) (A2 : Option Addr) (n2 c2 : Nat) (A3 : Option Addr) (n3 c3 : Nat) (A4 : Option Addr) (n4 c4 : Nat) (q t r : Int) (m : Nat) (w : World) (hn1 : n1 * 8 ≤ 140737488351232) (hn2 : n2 * 8 ≤ 140737488351232) (hn3 : n3 * 32 ≤ 140737488351232) (hn4 : n4 * 24 ≤ 140737488351232) (hm : m ≤ 1152921504606846976)
    (h1 : Sl w lo hi A1 n1 (fun k => .int .i64 ((m + k : Nat) : Int))) (h2 : Sl w lo hi A2 n2 (fun k => .bool (m3 (m + n1 + k)))) (h3 : Sl w lo hi A3 (n3 * 4) (fun k => .int .i64 ((m + n1 + n2 + k : Nat) : Int)))
    (h4 : Sl w lo hi A4 (n4 * 3) (fun k => .int .i64 ((m + n1 + n2 + n3 * 4 + k : Nat) : Int))) :
    Calls Try.prog 13 #[.agg #[.int .i64 q, .slice A1 n1 c1, .slice A2 n2 c2, .slice A3 n3 c3, .int .i64 t, .int .i64 r, .slice A4 n4 c4], .int .i64 m] w fun e w' => e = .returned (.int .i64 ((m + n1 + n2 + n3 * 4 + n4 * 3 : Nat) : Int)) ∧ Below w.heap.size w w' := by
  have K1 : Hid ((w.alloc (.cells #[.int .i64 q, .slice A1 n1 c1, .slice A2 n2 c2, .slice A3 n3 c3, .int .i64 t, .int .i64 r, .slice A4 n4 c4] 35)).heap[w.heap.size]? = some (.cells #[.int .i64 q, .slice A1 n1 c1, .slice A2 n2 c2, .slice A3 n3 c3, .int .i64 t, .int .i64 r, .slice A4 n4 c4] 35 (0, 0))) := heap_alloc_new w _
  have B2 : Hid (Below w.heap.size w (w.alloc (.cells #[.int .i64 q, .slice A1 n1 c1, .slice A2 n2 c2, .slice A3 n3 c3, .int .i64 t, .int .i64 r, .slice A4 n4 c4] 35))) := below_new w _
  have Q1 : Hid (∀ W, Below (w.heap.size + 1) (w.alloc (.cells #[.int .i64 q, .slice A1 n1 c1, .slice A2 n2 c2, .slice A3 n3 c3, .int .i64 t, .int .i64 r, .slice A4 n4 c4] 35)) W → W.cell? ⟨w.heap.size, 0, none⟩ = some (.int .i64 q) ∧ W.cell? ⟨w.heap.size, 1, none⟩ = some (.slice A1 n1 c1) ∧ W.cell? ⟨w.heap.size, 2, none⟩ = some (.slice A2 n2 c2) ∧ W.cell? ⟨w.heap.size, 3, none⟩ = some (.slice A3 n3 c3) ∧ W.cell? ⟨w.heap.size, 4, none⟩ = some (.int .i64 t) ∧ W.cell? ⟨w.heap.size, 5, none⟩ = some (.int .i64 r) ∧ W.cell? ⟨w.heap.size, 6, none⟩ = some (.slice A4 n4 c4)) := fun W hB => ⟨cell_of_row W _ 0 _ _ _ ((hB.block _ (by simp; try omega)).trans K1.out), cell_of_row W _ 1 _ _ _ ((hB.block _ (by simp; try omega)).trans K1.out), cell_of_row W _ 2 _ _ _ ((hB.block _ (by simp; try omega)).trans K1.out), cell_of_row W _ 3 _ _ _ ((hB.block _ (by simp; try omega)).trans K1.out), cell_of_row W _ 4 _ _ _ ((hB.block _ (by simp; try omega)).trans K1.out), cell_of_row W _ 5 _ _ _ ((hB.block _ (by simp; try omega)).trans K1.out), cell_of_row W _ 6 _ _ _ ((hB.block _ (by simp; try omega)).trans K1.out)⟩
  have P1 := Lib.hid (h1.lt.below B2.out (Nat.min_le_right _ _)); have P2 := Lib.hid (h2.lt.below B2.out (Nat.min_le_right _ _)); have P3 := Lib.hid (h3.lt.below B2.out (Nat.min_le_right _ _)); have P4 := Lib.hid (h4.lt.below B2.out (Nat.min_le_right _ _))
  have H0 : Hid (Below (w.heap.size + 1) (w.alloc (.cells #[.int .i64 q, .slice A1 n1 c1, .slice A2 n2 c2, .slice A3 n3 c3, .int .i64 t, .int .i64 r, .slice A4 n4 c4] 35)) (w.alloc (.cells #[.int .i64 q, .slice A1 n1 c1, .slice A2 n2 c2, .slice A3 n3 c3, .int .i64 t, .int .i64 r, .slice A4 n4 c4] 35))) := Below.refl _ _
  have S2 : Hid ((w.alloc (.cells #[.int .i64 q, .slice A1 n1 c1, .slice A2 n2 c2, .slice A3 n3 c3, .int .i64 t, .int .i64 r, .slice A4 n4 c4] 35)).heap.size = w.heap.size + 1) := by show _ = _; simp
  clear h1 h2 h3 h4 K1
  go_enter Try.func13, Try.ntmps13
  go_wp2_with fail
  refine (heldKernel_any lo (min hi w.heap.size) A1 n1 c1 A2 n2 c2 A3 n3 c3 t r m _ hn1 hn2 hn3 hm P1.out P2.out P3.out).mono ?_
  rintro e w1 ⟨rfl, hb⟩
  have sz2 := S2.out
  have Hw1 := Lib.hid (H0.out.trans (hb.mono (by omega)))
  obtain ⟨x0, x1, x2, x3, x4, x5, x6⟩ := Q1.out _ Hw1.out
  clear hb sz2
  go_wp2_with fail
  refine (heldNoteS_any lo (min hi w.heap.size) A4 n4 c4 (m + n1 + n2 + n3 * 4) _ (by omega) (by omega) (P4.out.below Hw1.out (by omega))).mono ?_
  rintro e w2 ⟨rfl, hb⟩
  have sz := Hw1.out.size
  have sz2 := S2.out
  have Hw2 := Lib.hid (Hw1.out.trans (hb.mono (by omega)))
  obtain ⟨x0, x1, x2, x3, x4, x5, x6⟩ := Q1.out _ Hw2.out
  clear hb sz sz2
  go_wp2
  go_ret
  exact ⟨rfl, B2.out.trans (Hw2.out.mono (by omega))⟩

end Go.Proofs.Ytbodmjdniblhgaa
