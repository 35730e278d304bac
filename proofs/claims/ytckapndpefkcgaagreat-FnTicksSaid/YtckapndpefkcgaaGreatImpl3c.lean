/-
  The library's slices.Equal at the three types that the program asks it for, and the program's SameKernels: true where both say the same. No conditions beyond that the lists can be read.
-/
import Derived.Test.YtckapndpefkcgaaGreatSpec3s
set_option maxHeartbeats 1000000
namespace Go.Proofs.YtckapndpefkcgaaGreat
open Go.RowKit
set_option maxRecDepth 100000

theorem dec_of {p : Prop} [Decidable p] {b : Bool} (h : p ↔ b = true) : decide p = b := by
  cases b
  · exact decide_eq_false (fun hp => by have := h.1 hp; cases this)
  · exact decide_eq_true (h.2 rfl)
theorem ints_eq_iff {xs ys : List Int} {n : Nat} (l1 : xs.length = n) (l2 : ys.length = n) : xs = ys ↔ ∀ j, j < n → gi xs j = gi ys j :=
  ⟨fun h j _ => by rw [h], fun h => by
    apply List.ext_getElem (by omega)
    intro i h1 h2
    have := h i (by omega)
    rwa [gi_lt _ _ h1, gi_lt _ _ h2] at this⟩
theorem bools_eq_iff {xs ys : List Bool} {n : Nat} (l1 : xs.length = n) (l2 : ys.length = n) : xs = ys ↔ ∀ j, j < n → gb xs j = gb ys j :=
  ⟨fun h j _ => by rw [h], fun h => same_bools l1 l2 h⟩

set_option maxHeartbeats 2000000 in
theorem sliceEq_int (lo hi lo' hi' : Nat) (A : Option Addr) (n c : Nat) (A' : Option Addr) (n' c' : Nat) (xs ys : List Int) (w : World) (hn : n * 8 ≤ 140737488351232) (l1 : xs.length = n) (l2 : ys.length = n')
    (s1 : Sl w lo hi A (n) (fun k => .int .i64 (gi xs k))) (s2 : Sl w lo' hi' A' (n') (fun k => .int .i64 (gi ys k))) :
    Calls Tryz.prog 76 #[.slice A n c, .slice A' n' c'] w fun e w' => e = .returned (.bool (decide (xs = ys))) ∧ Below w.heap.size w w' := by
  have S1 := Lib.hid s1.lt; have S2 := Lib.hid s2.lt
  have R0 : Hid (Below w.heap.size w w) := Below.refl _ _
  clear s1 s2
  by_cases hl : n = n'
  case neg =>
    have h1 : ((n : Int) == n') = false := by simp; omega
    have h2 : ((n : Int) != n') = true := by simp; omega
    have NE : Hid (false = decide (xs = ys)) := (decide_eq_false (fun h => hl (by rw [h] at l1; omega))).symm
    go_enter Tryz.func76, Tryz.ntmps76
    go_wp2
    go_ret
    exact ⟨by rw [← NE.out]; simp, R0.out⟩
  subst hl
  have IFF := Lib.hid (ints_eq_iff l1 l2)
  clear l1 l2
  go_enter Tryz.func76, Tryz.ntmps76
  go_wp2
  go_loopw [13] (fun i wr => ∃ k : Nat, k ≤ n ∧ i = .int .i64 k ∧ Below w.heap.size w wr ∧ ∀ j, j < k → gi xs j = gi ys j) (fun i _ => n - (intOf i).toNat)
  case atStart => exact ⟨0, Nat.zero_le _, rfl, R0.out, fun j hj => absurd hj (by omega)⟩
  case round =>
    obtain ⟨k, hk, rfl, hb, hs⟩ := hrel
    have HB := Lib.hid hb; have HS := Lib.hid hs
    by_cases hlt : k < n
    · obtain ⟨b1, o1, rfl, p1, p2, hc1⟩ := (S1.out.below hb (by omega)).at_ (show k < n by omega)
      obtain ⟨b2, o2, rfl, p3, p4, hc2⟩ := (S2.out.below hb (by omega)).at_ (show k < n by omega)
      have d1 := hc1 k hlt
      have d2 := hc2 k hlt
      clear hb hs hc1 hc2 p1 p2 p3 p4
      cases hz : (gi xs k != gi ys k)
      · have GO : Hid (∀ j, j < k + 1 → gi xs j = gi ys j) := fun j hj => by
          rcases Nat.lt_succ_iff_lt_or_eq.1 hj with h | rfl
          · exact HS.out j h
          · simpa using hz
        go_wp2_with fail
        go_quiet (fail)
        go_wp2
        go_roundw
        case rel => exact ⟨k + 1, by omega, by go_num, below_drewN HB.out _, GO.out⟩
        case measure => simp [intOf]; omega
      · have NE : Hid (false = decide (xs = ys)) := (decide_eq_false (fun h => by have := IFF.out.1 h k hlt; simp [this] at hz)).symm
        go_wp2_with fail
        go_quiet (fail)
        go_wp2
        go_ret
        exact ⟨by rw [← NE.out]; simp, below_drewN HB.out _⟩
    · have YE : Hid (true = decide (xs = ys)) := (decide_eq_true (IFF.out.2 fun j hj => hs j (by omega))).symm
      clear hb hs
      go_wp2
      go_ret
      exact ⟨by rw [← YE.out]; simp, HB.out⟩

set_option maxHeartbeats 2000000 in
theorem sliceEq_bool (lo hi lo' hi' : Nat) (A : Option Addr) (n c : Nat) (A' : Option Addr) (n' c' : Nat) (xs ys : List Bool) (w : World) (hn : n * 8 ≤ 140737488351232) (l1 : xs.length = n) (l2 : ys.length = n')
    (s1 : Sl w lo hi A (n) (fun k => .bool (gb xs k))) (s2 : Sl w lo' hi' A' (n') (fun k => .bool (gb ys k))) :
    Calls Tryz.prog 77 #[.slice A n c, .slice A' n' c'] w fun e w' => e = .returned (.bool (decide (xs = ys))) ∧ Below w.heap.size w w' := by
  have S1 := Lib.hid s1.lt; have S2 := Lib.hid s2.lt
  have R0 : Hid (Below w.heap.size w w) := Below.refl _ _
  clear s1 s2
  by_cases hl : n = n'
  case neg =>
    have h1 : ((n : Int) == n') = false := by simp; omega
    have h2 : ((n : Int) != n') = true := by simp; omega
    have NE : Hid (false = decide (xs = ys)) := (decide_eq_false (fun h => hl (by rw [h] at l1; omega))).symm
    go_enter Tryz.func77, Tryz.ntmps77
    go_wp2
    go_ret
    exact ⟨by rw [← NE.out]; simp, R0.out⟩
  subst hl
  have IFF := Lib.hid (bools_eq_iff l1 l2)
  clear l1 l2
  go_enter Tryz.func77, Tryz.ntmps77
  go_wp2
  go_loopw [13] (fun i wr => ∃ k : Nat, k ≤ n ∧ i = .int .i64 k ∧ Below w.heap.size w wr ∧ ∀ j, j < k → gb xs j = gb ys j) (fun i _ => n - (intOf i).toNat)
  case atStart => exact ⟨0, Nat.zero_le _, rfl, R0.out, fun j hj => absurd hj (by omega)⟩
  case round =>
    obtain ⟨k, hk, rfl, hb, hs⟩ := hrel
    have HB := Lib.hid hb; have HS := Lib.hid hs
    by_cases hlt : k < n
    · obtain ⟨b1, o1, rfl, p1, p2, hc1⟩ := (S1.out.below hb (by omega)).at_ (show k < n by omega)
      obtain ⟨b2, o2, rfl, p3, p4, hc2⟩ := (S2.out.below hb (by omega)).at_ (show k < n by omega)
      have d1 := hc1 k hlt
      have d2 := hc2 k hlt
      clear hb hs hc1 hc2 p1 p2 p3 p4
      rcases hx : gb xs k with _ | _ <;> rcases hy : gb ys k with _ | _ <;> rw [hx] at d1 <;> rw [hy] at d2
      · have GO : Hid (∀ j, j < k + 1 → gb xs j = gb ys j) := fun j hj => by
          rcases Nat.lt_succ_iff_lt_or_eq.1 hj with h | rfl
          · exact HS.out j h
          · rw [hx, hy]
        go_wp2_with fail
        go_quiet (fail)
        go_wp2
        go_roundw
        case rel => exact ⟨k + 1, by omega, by go_num, below_drewN HB.out _, GO.out⟩
        case measure => simp [intOf]; omega
      · have NE : Hid (false = decide (xs = ys)) := (decide_eq_false (fun h => by have := IFF.out.1 h k hlt; rw [hx, hy] at this; cases this)).symm
        go_wp2_with fail
        go_quiet (fail)
        go_wp2
        go_ret
        exact ⟨by rw [← NE.out]; simp, below_drewN HB.out _⟩
      · have NE : Hid (false = decide (xs = ys)) := (decide_eq_false (fun h => by have := IFF.out.1 h k hlt; rw [hx, hy] at this; cases this)).symm
        go_wp2_with fail
        go_quiet (fail)
        go_wp2
        go_ret
        exact ⟨by rw [← NE.out]; simp, below_drewN HB.out _⟩
      · have GO : Hid (∀ j, j < k + 1 → gb xs j = gb ys j) := fun j hj => by
          rcases Nat.lt_succ_iff_lt_or_eq.1 hj with h | rfl
          · exact HS.out j h
          · rw [hx, hy]
        go_wp2_with fail
        go_quiet (fail)
        go_wp2
        go_roundw
        case rel => exact ⟨k + 1, by omega, by go_num, below_drewN HB.out _, GO.out⟩
        case measure => simp [intOf]; omega
    · have YE : Hid (true = decide (xs = ys)) := (decide_eq_true (IFF.out.2 fun j hj => hs j (by omega))).symm
      clear hb hs
      go_wp2
      go_ret
      exact ⟨by rw [← YE.out]; simp, HB.out⟩

set_option maxHeartbeats 2000000 in
theorem sliceEq_acc (lo hi lo' hi' : Nat) (A : Option Addr) (n c : Nat) (A' : Option Addr) (n' c' : Nat) (xs ys : List Int) (w : World) (hn : n * 32 ≤ 140737488351232) (l1 : xs.length = n * 4) (l2 : ys.length = n' * 4)
    (s1 : Sl w lo hi A (n * 4) (fun k => .int .i64 (gi xs k))) (s2 : Sl w lo' hi' A' (n' * 4) (fun k => .int .i64 (gi ys k))) :
    Calls Tryz.prog 78 #[.slice A n c, .slice A' n' c'] w fun e w' => e = .returned (.bool (decide (xs = ys))) ∧ Below w.heap.size w w' := by
  have S1 := Lib.hid s1.lt; have S2 := Lib.hid s2.lt
  have R0 : Hid (Below w.heap.size w w) := Below.refl _ _
  clear s1 s2
  by_cases hl : n = n'
  case neg =>
    have h1 : ((n : Int) == n') = false := by simp; omega
    have h2 : ((n : Int) != n') = true := by simp; omega
    have NE : Hid (false = decide (xs = ys)) := (decide_eq_false (fun h => hl (by rw [h] at l1; omega))).symm
    go_enter Tryz.func78, Tryz.ntmps78
    go_wp2
    go_ret
    exact ⟨by rw [← NE.out]; simp, R0.out⟩
  subst hl
  have IFF := Lib.hid (ints_eq_iff l1 l2)
  clear l1 l2
  go_enter Tryz.func78, Tryz.ntmps78
  go_wp2
  go_loopw [13] (fun i wr => ∃ k : Nat, k ≤ n ∧ i = .int .i64 k ∧ Below w.heap.size w wr ∧ ∀ j, j < k * 4 → gi xs j = gi ys j) (fun i _ => n - (intOf i).toNat)
  case atStart => exact ⟨0, Nat.zero_le _, rfl, R0.out, fun j hj => absurd hj (by omega)⟩
  case round =>
    obtain ⟨k, hk, rfl, hb, hs⟩ := hrel
    have HB := Lib.hid hb; have HS := Lib.hid hs
    by_cases hlt : k < n
    · obtain ⟨b1, o1, rfl, p1, p2, hc1⟩ := (S1.out.below hb (by omega)).at_ (show k * 4 < n * 4 by omega)
      obtain ⟨b2, o2, rfl, p3, p4, hc2⟩ := (S2.out.below hb (by omega)).at_ (show k * 4 < n * 4 by omega)
      have d0 : wr.cell? ⟨b1, o1 + k * 4, none⟩ = some (Value.int .i64 (gi xs (k * 4))) := hc1 (k * 4) (by omega)
      have d1 : wr.cell? ⟨b1, o1 + k * 4 + 1, none⟩ = some (Value.int .i64 (gi xs (k * 4 + 1))) := hc1 (k * 4 + 1) (by omega)
      have d2 : wr.cell? ⟨b1, o1 + k * 4 + 2, none⟩ = some (Value.int .i64 (gi xs (k * 4 + 2))) := hc1 (k * 4 + 2) (by omega)
      have d3 : wr.cell? ⟨b1, o1 + k * 4 + 3, none⟩ = some (Value.int .i64 (gi xs (k * 4 + 3))) := hc1 (k * 4 + 3) (by omega)
      have f0 : wr.cell? ⟨b2, o2 + k * 4, none⟩ = some (Value.int .i64 (gi ys (k * 4))) := hc2 (k * 4) (by omega)
      have f1 : wr.cell? ⟨b2, o2 + k * 4 + 1, none⟩ = some (Value.int .i64 (gi ys (k * 4 + 1))) := hc2 (k * 4 + 1) (by omega)
      have f2 : wr.cell? ⟨b2, o2 + k * 4 + 2, none⟩ = some (Value.int .i64 (gi ys (k * 4 + 2))) := hc2 (k * 4 + 2) (by omega)
      have f3 : wr.cell? ⟨b2, o2 + k * 4 + 3, none⟩ = some (Value.int .i64 (gi ys (k * 4 + 3))) := hc2 (k * 4 + 3) (by omega)
      clear hb hs hc1 hc2 p1 p2 p3 p4
      cases hz : (gi xs (k * 4) == gi ys (k * 4) && gi xs (k * 4 + 1) == gi ys (k * 4 + 1) && gi xs (k * 4 + 2) == gi ys (k * 4 + 2) && gi xs (k * 4 + 3) == gi ys (k * 4 + 3))
      · have nz := run_neq_two (gi xs (k * 4)) (gi xs (k * 4 + 1)) (gi xs (k * 4 + 2)) (gi xs (k * 4 + 3)) (gi ys (k * 4)) (gi ys (k * 4 + 1)) (gi ys (k * 4 + 2)) (gi ys (k * 4 + 3)) true hz
        have NE : Hid (false = decide (xs = ys)) := (decide_eq_false (fun h => by
          have e0 := IFF.out.1 h (k * 4) (by omega)
          have e1 := IFF.out.1 h (k * 4 + 1) (by omega)
          have e2 := IFF.out.1 h (k * 4 + 2) (by omega)
          have e3 := IFF.out.1 h (k * 4 + 3) (by omega)
          rw [e0, e1, e2, e3] at hz
          simp at hz)).symm
        clear hz
        go_wp2_with fail
        go_quiet (fail)
        go_wp2
        go_ret
        exact ⟨by rw [← NE.out]; simp, below_drewN HB.out _⟩
      · have nz := run_neq_two (gi xs (k * 4)) (gi xs (k * 4 + 1)) (gi xs (k * 4 + 2)) (gi xs (k * 4 + 3)) (gi ys (k * 4)) (gi ys (k * 4 + 1)) (gi ys (k * 4 + 2)) (gi ys (k * 4 + 3)) false hz
        have GO : Hid (∀ j, j < (k + 1) * 4 → gi xs j = gi ys j) := fun j hj => by
          by_cases h : j < k * 4
          · exact HS.out j h
          · simp only [Bool.and_eq_true, beq_iff_eq] at hz
            have : j = k * 4 ∨ j = k * 4 + 1 ∨ j = k * 4 + 2 ∨ j = k * 4 + 3 := by omega
            rcases this with rfl | rfl | rfl | rfl
            · exact hz.1.1.1
            · exact hz.1.1.2
            · exact hz.1.2
            · exact hz.2
        clear hz
        go_wp2_with fail
        go_quiet (fail)
        go_wp2
        go_roundw
        case rel => exact ⟨k + 1, by omega, by go_num, below_drewN HB.out _, GO.out⟩
        case measure => simp [intOf]; omega
    · have YE : Hid (true = decide (xs = ys)) := (decide_eq_true (IFF.out.2 fun j hj => hs j (by omega))).symm
      clear hb hs
      go_wp2
      go_ret
      exact ⟨by rw [← YE.out]; simp, HB.out⟩

set_option maxHeartbeats 4000000 in
theorem implSameKernels_any (lo hi lo' hi' : Nat) (A1 : Option Addr) (n1 c1 : Nat) (A2 : Option Addr) (n2 c2 : Nat) (A3 : Option Addr) (n3 c3 : Nat) (A1' : Option Addr) (n1' c1' : Nat) (A2' : Option Addr) (n2' c2' : Nat) (A3' : Option Addr) (n3' c3' : Nat) (K L : Ker) (w : World) (hn1 : n1 * 8 ≤ 140737488351232) (hn2 : n2 * 8 ≤ 140737488351232) (hn3 : n3 * 32 ≤ 140737488351232)
    (h : KRead w lo hi A1 n1 A2 n2 A3 n3 K) (h' : KRead w lo' hi' A1' n1' A2' n2' A3' n3' L) :
    Calls Tryz.prog 26 #[.agg #[.slice A1 n1 c1, .slice A2 n2 c2, .slice A3 n3 c3, .int .i64 K.tick, .int .i64 K.run], .agg #[.slice A1' n1' c1', .slice A2' n2' c2', .slice A3' n3' c3', .int .i64 L.tick, .int .i64 L.run]] w fun e w' => e = .returned (.bool (decide (K = L))) ∧ Below w.heap.size w w' := by
  obtain ⟨w1, hW1⟩ : ∃ w1, w1 = (w.alloc (.cells #[.slice A1 n1 c1, .slice A2 n2 c2, .slice A3 n3 c3, .int .i64 K.tick, .int .i64 K.run] 39)).alloc (.cells #[.slice A1' n1' c1', .slice A2' n2' c2', .slice A3' n3' c3', .int .i64 L.tick, .int .i64 L.run] 39) := ⟨_, rfl⟩
  have k1 : w1.heap[w.heap.size]? = some (.cells #[.slice A1 n1 c1, .slice A2 n2 c2, .slice A3 n3 c3, .int .i64 K.tick, .int .i64 K.run] 39 (0, 0)) := by rw [hW1]; exact heap_alloc2_old w _ _
  have k2 : w1.heap[w.heap.size + 1]? = some (.cells #[.slice A1' n1' c1', .slice A2' n2' c2', .slice A3' n3' c3', .int .i64 L.tick, .int .i64 L.run] 39 (0, 0)) := by rw [hW1]; exact heap_alloc2_new w _ _
  have B1 : Hid (Below w.heap.size w w1) := by rw [hW1]; exact (below_new w _).alloc (by simp) _
  have sz : w1.heap.size = w.heap.size + 2 := by rw [hW1]; simp
  have SZ := Lib.hid sz
  have H := Lib.hid ((h.lt.below B1.out (Nat.min_le_right _ _)).lt)
  have H' := Lib.hid ((h'.lt.below B1.out (Nat.min_le_right _ _)).lt)
  obtain ⟨l1, l2, l3⟩ := h.1
  obtain ⟨m1, m2, m3⟩ := h'.1
  have QS : Hid (∀ W, Below w1.heap.size w1 W → (W.cell? ⟨w.heap.size, 0, none⟩ = some (.slice A1 n1 c1) ∧ W.cell? ⟨w.heap.size, 1, none⟩ = some (.slice A2 n2 c2) ∧ W.cell? ⟨w.heap.size, 2, none⟩ = some (.slice A3 n3 c3) ∧ W.cell? ⟨w.heap.size, 3, none⟩ = some (.int .i64 K.tick) ∧ W.cell? ⟨w.heap.size, 4, none⟩ = some (.int .i64 K.run)) ∧ (W.cell? ⟨w.heap.size + 1, 0, none⟩ = some (.slice A1' n1' c1') ∧ W.cell? ⟨w.heap.size + 1, 1, none⟩ = some (.slice A2' n2' c2') ∧ W.cell? ⟨w.heap.size + 1, 2, none⟩ = some (.slice A3' n3' c3') ∧ W.cell? ⟨w.heap.size + 1, 3, none⟩ = some (.int .i64 L.tick) ∧ W.cell? ⟨w.heap.size + 1, 4, none⟩ = some (.int .i64 L.run))) := fun W hB => by
    have j1 := (hB.block w.heap.size (by omega)).trans k1
    have j2 := (hB.block (w.heap.size + 1) (by omega)).trans k2
    exact ⟨⟨cell_of_row W _ 0 _ _ _ j1, cell_of_row W _ 1 _ _ _ j1, cell_of_row W _ 2 _ _ _ j1, cell_of_row W _ 3 _ _ _ j1, cell_of_row W _ 4 _ _ _ j1⟩, ⟨cell_of_row W _ 0 _ _ _ j2, cell_of_row W _ 1 _ _ _ j2, cell_of_row W _ 2 _ _ _ j2, cell_of_row W _ 3 _ _ _ j2, cell_of_row W _ 4 _ _ _ j2⟩⟩
  have R0 : Hid (Below w1.heap.size w1 w1) := Below.refl _ _
  have E1 : Hid (∀ W, Below w1.heap.size w1 W → Calls Tryz.prog 76 #[.slice A1 n1 c1, .slice A1' n1' c1'] W fun e w' => e = .returned (.bool (decide (K.os = L.os))) ∧ Below w1.heap.size w1 w') := fun W hW =>
    (sliceEq_int _ _ _ _ A1 n1 c1 A1' n1' c1' K.os L.os W hn1 l1 m1 (H.out.below hW (Nat.min_le_right _ _)).2.1 (H'.out.below hW (Nat.min_le_right _ _)).2.1).mono fun e w' hh => ⟨hh.1, hW.trans (hh.2.mono hW.size)⟩
  have E2 : Hid (∀ W, Below w1.heap.size w1 W → Calls Tryz.prog 77 #[.slice A2 n2 c2, .slice A2' n2' c2'] W fun e w' => e = .returned (.bool (decide (K.al = L.al))) ∧ Below w1.heap.size w1 w') := fun W hW =>
    (sliceEq_bool _ _ _ _ A2 n2 c2 A2' n2' c2' K.al L.al W hn2 l2 m2 (H.out.below hW (Nat.min_le_right _ _)).2.2.1 (H'.out.below hW (Nat.min_le_right _ _)).2.2.1).mono fun e w' hh => ⟨hh.1, hW.trans (hh.2.mono hW.size)⟩
  have E3 : Hid (∀ W, Below w1.heap.size w1 W → Calls Tryz.prog 78 #[.slice A3 n3 c3, .slice A3' n3' c3'] W fun e w' => e = .returned (.bool (decide (K.ac = L.ac))) ∧ Below w1.heap.size w1 w') := fun W hW =>
    (sliceEq_acc _ _ _ _ A3 n3 c3 A3' n3' c3' K.ac L.ac W hn3 l3 m3 (H.out.below hW (Nat.min_le_right _ _)).2.2.2 (H'.out.below hW (Nat.min_le_right _ _)).2.2.2).mono fun e w' hh => ⟨hh.1, hW.trans (hh.2.mono hW.size)⟩
  have FIN : Hid (∀ W, Below w1.heap.size w1 W → Below w.heap.size w W) := fun W hW => B1.out.trans (hW.mono (by omega))
  have EQ : Hid (decide (K = L) = (decide (K.os = L.os) && (decide (K.al = L.al) && (decide (K.ac = L.ac) && (K.tick == L.tick && K.run == L.run))))) := by
    show _ = _
    obtain ⟨a, b, c, d, e⟩ := K
    obtain ⟨a', b', c', d', e'⟩ := L
    apply dec_of
    simp
  obtain ⟨⟨q0, q1, q2, q3, q4⟩, p0, p1, p2, p3, p4⟩ := QS.out w1 R0.out
  clear h h' k1 k2 sz l1 l2 l3 m1 m2 m3
  go_enter Tryz.func26, Tryz.ntmps26
  go_upto_region 1 with (fail)
  rw [← hW1]
  clear hW1
  generalize decide (K.os = L.os) = b1 at *
  generalize decide (K.al = L.al) = b2 at *
  generalize decide (K.ac = L.ac) = b3 at *
  go_wp2_with fail
  refine (E1.out _ R0.out).mono ?_
  rintro e w2 ⟨rfl, hb⟩
  have HB := Lib.hid hb
  obtain ⟨⟨q0, q1, q2, q3, q4⟩, p0, p1, p2, p3, p4⟩ := QS.out _ hb
  clear hb E1
  rcases b1 with _ | _
  · go_wp2
    go_ret
    exact ⟨by rw [EQ.out]; simp, FIN.out _ HB.out⟩
  go_wp2_with fail
  refine (E2.out _ HB.out).mono ?_
  rintro e w3 ⟨rfl, hb⟩
  have HB := Lib.hid hb
  obtain ⟨⟨q0, q1, q2, q3, q4⟩, p0, p1, p2, p3, p4⟩ := QS.out _ hb
  clear hb E2
  rcases b2 with _ | _
  · go_wp2
    go_ret
    exact ⟨by rw [EQ.out]; simp, FIN.out _ HB.out⟩
  go_wp2_with fail
  refine (E3.out _ HB.out).mono ?_
  rintro e w4 ⟨rfl, hb⟩
  have HB := Lib.hid hb
  obtain ⟨⟨q0, q1, q2, q3, q4⟩, p0, p1, p2, p3, p4⟩ := QS.out _ hb
  clear hb E3
  rcases b3 with _ | _
  · go_wp2
    go_ret
    exact ⟨by rw [EQ.out]; simp, FIN.out _ HB.out⟩
  rcases ht : (K.tick == L.tick) with _ | _
  · rw [ht] at EQ
    go_wp2
    go_ret
    exact ⟨by rw [EQ.out]; simp, FIN.out _ HB.out⟩
  · rw [ht] at EQ
    go_wp2
    go_ret
    exact ⟨by rw [EQ.out]; simp, FIN.out _ HB.out⟩

end Go.Proofs.YtckapndpefkcgaaGreat
