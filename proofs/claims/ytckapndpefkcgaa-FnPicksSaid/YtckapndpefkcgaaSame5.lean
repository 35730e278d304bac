/-
  SameScheds: true where both schedules say the same: the model's, the program's. No conditions beyond that the lists can be read.
-/
import Derived.BigQuiet
import Derived.Test.YtckapndpefkcgaaImpl5b
set_option maxHeartbeats 1000000
namespace Go.Proofs.Ytckapndpefkcgaa
open Go.RowKit
set_option maxRecDepth 100000

theorem run_neq_ready (u x g u2 x2 g2 : Int) (z : Bool) (h : (u == u2 && x == x2 && g == g2) = !z) (W : World) : (binOp .neq 52 (.agg #[.int .i64 u, .int .i64 x, .int .i64 g]) (.agg #[.int .i64 u2, .int .i64 x2, .int .i64 g2])).run Try.prog W = .ok (.bool z) W := by
  obtain rfl : z = !(u == u2 && x == x2 && g == g2) := by rw [h]; simp
  simp [go_sem]
  try grind
theorem g3_ext {xs ys : List R3} (hl : xs.length = ys.length) (h : ∀ j, j < xs.length → g3 xs j = g3 ys j) : xs = ys := by
  apply List.ext_getElem hl
  intro i h1 h2
  have := h i h1
  unfold g3 at this
  rwa [List.getD_eq_getElem?_getD, List.getD_eq_getElem?_getD, List.getElem?_eq_getElem h1, List.getElem?_eq_getElem h2] at this
theorem ret_dec {p : Prop} [Decidable p] {b : Bool} (h : p ↔ b = true) : Ending.returned (.bool b) = .returned (.bool (decide p)) := by
  congr 2
  cases b
  · exact (decide_eq_false (fun hp => by have := h.1 hp; cases this)).symm
  · exact (decide_eq_true (h.2 rfl)).symm
set_option maxHeartbeats 2000000 in
theorem equalReady_any (lo hi lo' hi' : Nat) (A : Option Addr) (c : Nat) (A' : Option Addr) (c' : Nat) (xs ys : List R3) (w : World) (hn : xs.length * 24 ≤ 140737488351232)
    (s1 : RS w lo hi A xs) (s2 : RS w lo' hi' A' ys) :
    Calls Try.prog 92 #[.slice A xs.length c, .slice A' ys.length c'] w fun e w' => e = .returned (.bool (decide (xs = ys))) ∧ Below w.heap.size w w' := by
  have S1 := Lib.hid s1.lt; have S2 := Lib.hid s2.lt
  have R0 : Hid (Below w.heap.size w w) := Below.refl _ _
  clear s1 s2
  by_cases hl : xs.length = ys.length
  case neg =>
    have h1 : ((xs.length : Int) == ys.length) = false := by simp; omega
    have h2 : ((xs.length : Int) != ys.length) = true := by simp; omega
    have NE : Hid (xs ≠ ys) := fun h => hl (by rw [h])
    go_enter Try.func92, Try.ntmps92
    go_wp2
    go_ret
    exact ⟨ret_dec ⟨fun h => absurd h NE.out, fun h => by cases h⟩, R0.out⟩
  have HLL := Lib.hid hl
  obtain ⟨n, hn1⟩ : ∃ n, n = xs.length := ⟨_, rfl⟩
  have HN := Lib.hid hn1
  rw [← hn1] at hn
  rw [← hl, ← hn1]
  clear hl hn1
  go_enter Try.func92, Try.ntmps92
  go_wp2
  go_loopw [13] (fun i wr => ∃ k : Nat, k ≤ n ∧ i = .int .i64 k ∧ Below w.heap.size w wr ∧ ∀ j, j < k → g3 xs j = g3 ys j) (fun i _ => n - (intOf i).toNat)
  case atStart => exact ⟨0, Nat.zero_le _, rfl, R0.out, fun j hj => absurd hj (by omega)⟩
  case round =>
    obtain ⟨k, hk, rfl, hb, hs⟩ := hrel
    have HB := Lib.hid hb; have HS := Lib.hid hs
    by_cases hlt : k < n
    · have l1 : k < xs.length := by have := HN.out; omega
      have l2 : k < ys.length := by have := HN.out; have := HLL.out; omega
      obtain ⟨b1, o1, rfl, p1, p2, hc1⟩ := RS.get (S1.out.below hb (by omega)) (i := k) (by omega)
      obtain ⟨b2, o2, rfl, p3, p4, hc2⟩ := RS.get (S2.out.below hb (by omega)) (i := k) (by omega)
      obtain ⟨⟨x0, x1, x2⟩, hx⟩ : ∃ x : R3, x = g3 xs k := ⟨_, rfl⟩
      obtain ⟨⟨y0, y1, y2⟩, hy⟩ : ∃ y : R3, y = g3 ys k := ⟨_, rfl⟩
      have d0 : wr.cell? ⟨b1, o1 + k * 3, none⟩ = some (Value.int .i64 x0) := by rw [show x0 = (g3 xs k).1 by rw [← hx]]; exact (hc1 k (by omega)).1
      have d1 : wr.cell? ⟨b1, o1 + k * 3 + 1, none⟩ = some (Value.int .i64 x1) := by rw [show x1 = (g3 xs k).2.1 by rw [← hx]]; exact (hc1 k (by omega)).2.1
      have d2 : wr.cell? ⟨b1, o1 + k * 3 + 2, none⟩ = some (Value.int .i64 x2) := by rw [show x2 = (g3 xs k).2.2 by rw [← hx]]; exact (hc1 k (by omega)).2.2
      have f0 : wr.cell? ⟨b2, o2 + k * 3, none⟩ = some (Value.int .i64 y0) := by rw [show y0 = (g3 ys k).1 by rw [← hy]]; exact (hc2 k (by omega)).1
      have f1 : wr.cell? ⟨b2, o2 + k * 3 + 1, none⟩ = some (Value.int .i64 y1) := by rw [show y1 = (g3 ys k).2.1 by rw [← hy]]; exact (hc2 k (by omega)).2.1
      have f2 : wr.cell? ⟨b2, o2 + k * 3 + 2, none⟩ = some (Value.int .i64 y2) := by rw [show y2 = (g3 ys k).2.2 by rw [← hy]]; exact (hc2 k (by omega)).2.2
      have HX := Lib.hid hx; have HY := Lib.hid hy
      clear hb hs hc1 hc2 p1 p2 p3 p4 hx hy
      cases hz : (x0 == y0 && x1 == y1 && x2 == y2)
      · have nz := run_neq_ready x0 x1 x2 y0 y1 y2 true hz
        have NE : Hid (xs ≠ ys) := fun h => by
          have e : (x0, x1, x2) = (y0, y1, y2) := by rw [HX.out, HY.out, h]
          simp at e
          simp [e] at hz
        clear hz
        go_upto_region 6 with (fail)
        go_quiet (fail)
        go_wp2
        go_ret
        exact ⟨ret_dec ⟨fun h => absurd h NE.out, fun h => by cases h⟩, below_drewN HB.out _⟩
      · have nz := run_neq_ready x0 x1 x2 y0 y1 y2 false hz
        have GO : Hid (∀ j, j < k + 1 → g3 xs j = g3 ys j) := fun j hj => by
          rcases Nat.lt_succ_iff_lt_or_eq.1 hj with h | rfl
          · exact HS.out j h
          · rw [← HX.out, ← HY.out]
            simp only [Bool.and_eq_true, beq_iff_eq] at hz
            rw [hz.1.1, hz.1.2, hz.2]
        clear hz
        go_upto_region 6 with (fail)
        go_quiet (fail)
        go_wp2
        go_roundw
        case rel => exact ⟨k + 1, by omega, by go_num, below_drewN HB.out _, GO.out⟩
        case measure => simp [intOf]; omega
    · obtain rfl : k = n := by omega
      have EQ : Hid (xs = ys) := g3_ext HLL.out (by have := HN.out; intro j hj; exact hs j (by omega))
      clear hb hs
      go_wp2
      go_ret
      exact ⟨ret_dec ⟨fun _ => rfl, fun _ => EQ.out⟩, HB.out⟩

set_option maxHeartbeats 1000000 in
theorem implSameScheds_any (lo hi lo' hi' : Nat) (A : Option Addr) (c : Nat) (A' : Option Addr) (c' : Nat) (b b' : Int) (xs ys : List R3) (w : World) (hn : xs.length * 24 ≤ 140737488351232)
    (s1 : RS w lo hi A xs) (s2 : RS w lo' hi' A' ys) :
    Calls Try.prog 36 #[.agg #[.int .i64 b, .slice A xs.length c], .agg #[.int .i64 b', .slice A' ys.length c']] w fun e w' => e = .returned (.bool (decide (b = b' ∧ xs = ys))) ∧ Below w.heap.size w w' := by
  have B2 : Hid (∀ o o', Below w.heap.size w ((w.alloc o).alloc o')) := fun o o' => ((Below.refl _ _).alloc (Nat.le_refl _) o).alloc (by simp) o'
  by_cases hb : b = b'
  · have EQ : Hid (∀ W, Below w.heap.size w W → Calls Try.prog 92 #[.slice A xs.length c, .slice A' ys.length c'] W fun e w' => e = .returned (.bool (decide (xs = ys))) ∧ Below W.heap.size W w') := fun W hW =>
      equalReady_any lo (min hi w.heap.size) lo' (min hi' w.heap.size) A c A' c' xs ys W hn (s1.lt.below hW (by omega)) (s2.lt.below hW (by omega))
    have IF : Hid ((b = b' ∧ xs = ys) ↔ decide (xs = ys) = true) := by
      show _ ↔ _
      rw [decide_eq_true_iff]
      exact ⟨fun h => h.2, fun h => ⟨hb, h⟩⟩
    subst hb
    generalize decide (xs = ys) = z at *
    clear s1 s2
    go_enter Try.func36, Try.ntmps36
    go_wp2_with fail
    refine (EQ.out _ (B2.out _ _)).mono ?_
    rintro e w' ⟨rfl, hb⟩
    have HB := Lib.hid ((B2.out _ _).trans (hb.mono (by simp; omega)))
    clear hb
    go_wp2
    go_ret
    exact ⟨ret_dec IF.out, HB.out⟩
  · have h1 : (b == b') = false := by simpa using hb
    have HN := Lib.hid hb
    go_enter Try.func36, Try.ntmps36
    go_wp2
    go_ret
    exact ⟨ret_dec ⟨fun h => absurd h.1 HN.out, fun h => by cases h⟩, B2.out _ _⟩

end Go.Proofs.Ytckapndpefkcgaa
