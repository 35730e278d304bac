/-
  The laws' helpers on those that are ready, on lists of them and on schedules: size, copy, compare, mark, look again. No conditions beyond that the lists can be read.
-/
import Derived.Test.YtkhphkfbjbhgaaaChecked
import Derived.Test.YtkhphkfbjbhgaaaBase3
namespace Go.Proofs.Ytkhphkfbjbhgaaa
open Go.RowKit
set_option maxRecDepth 100000

theorem toReady_any (a b c : Int) (w : World) :
    Calls Try.prog 33 #[.agg #[.int .i64 a, .int .i64 b, .int .i64 c]] w fun r w' => r = .returned (.agg #[.int .i64 a, .int .i64 b, .int .i64 c]) ∧ Below w.heap.size w w' := by
  have B3 : Hid (∀ o o' o'', Below w.heap.size w (((w.alloc o).alloc o').alloc o'')) := fun o o' o'' => (((Below.refl _ _).alloc (Nat.le_refl _) o).alloc (by simp) o').alloc (by simp; omega) o''
  go_enter Try.func33, Try.ntmps33
  go_wp2
  go_returns
  exact ⟨rfl, B3.out _ _ _⟩

theorem eqReady_same (a b c : Int) (w : World) :
    Calls Try.prog 38 #[.agg #[.int .i64 a, .int .i64 b, .int .i64 c], .agg #[.int .i64 a, .int .i64 b, .int .i64 c]] w fun e w' => e = .returned (.bool true) ∧ Below w.heap.size w w' := by
  have B2 : Hid (∀ o o', Below w.heap.size w ((w.alloc o).alloc o')) := fun o o' => ((Below.refl _ _).alloc (Nat.le_refl _) o).alloc (by simp) o'
  go_enter Try.func38, Try.ntmps38
  go_wp2
  go_ret
  exact ⟨rfl, B2.out _ _⟩

theorem Try.info_Ready : (Try.prog.info? 51).map (fun i => (i.zero, i.size, i.bytes)) = some (some (.agg #[.int .i64 0, .int .i64 0, .int .i64 0]), 3, 24) := by kernel_rfl

/-- toReadyS: a new row that reads as the slice did. -/
theorem toReadyS_any (lo hi : Nat) (A : Option Addr) (n c : Nat) (x : Nat → Int) (w : World) (hn : n * 24 ≤ 140737488351232) (h : Sl w lo hi A (n * 3) (fun k => .int .i64 (x k))) (hhi : hi ≤ w.heap.size) :
    Calls Try.prog 21 #[.slice A n c] w fun e w' =>
      e = .returned (.slice (some ⟨w.heap.size, 0, none⟩) n n) ∧ Row w' w.heap.size 0 51 (n * 3) (fun k => .int .i64 (x k)) ∧ Below w.heap.size w w' := by
  have hmk := run_make_rows (P := Try.prog) 34 51 _ 3 24 Try.underlying34 Try.info_Ready .i64 .i64 n (by omega) (by omega)
  have H := Lib.hid h
  clear h
  go_enter Try.func21, Try.ntmps21
  go_wp2
  go_loopw [4] (fun i wr => ∃ k : Nat, k ≤ n ∧ i = .int .i64 k ∧ Row wr w.heap.size 0 51 (n * 3) (fun j => if j < k * 3 then .int .i64 (x j) else .int .i64 0) ∧ Below w.heap.size w wr) (fun i _ => n - (intOf i).toNat)
  case atStart => exact ⟨0, Nat.zero_le _, rfl, (Row.mades w _ (.int .i64 0) (n * 3) _ (by decide) (by intro r hr; match r, hr with | 0, _ => rfl | 1, _ => rfl | 2, _ => rfl)).congr (fun k hk => by simp), (Below.refl _ _).alloc (Nat.le_refl _) _⟩
  case round =>
    obtain ⟨k, hk, rfl, hrow, hb⟩ := hrel
    by_cases hlt : k < n
    · obtain ⟨b, off, rfl, h1, h2, hc⟩ := H.out.at_ (show k * 3 < n * 3 by omega)
      have c0 : wr.cell? ⟨b, off + k * 3, none⟩ = some (.int .i64 (x (k * 3))) := (hb.cell (p := ⟨b, off + (k * 3), none⟩) (by simp; omega)).trans (hc (k * 3) (by omega))
      have c1 : wr.cell? ⟨b, off + k * 3 + 1, none⟩ = some (.int .i64 (x (k * 3 + 1))) := (hb.cell (p := ⟨b, off + (k * 3 + 1), none⟩) (by simp; omega)).trans (hc (k * 3 + 1) (by omega))
      have c2 : wr.cell? ⟨b, off + k * 3 + 2, none⟩ = some (.int .i64 (x (k * 3 + 2))) := (hb.cell (p := ⟨b, off + (k * 3 + 2), none⟩) (by simp; omega)).trans (hc (k * 3 + 2) (by omega))
      have HR := Lib.hid hrow
      have HB := Lib.hid hb
      clear hc hrow hb H
      go_wp2_with fail
      refine (toReady_any _ _ _ _).mono ?_
      rintro e w1 ⟨rfl, hb1⟩
      have hrow := HR.out.below hb1 HR.out.lt
      have o0 := hrow.cell (show k * 3 + 0 < n * 3 by omega)
      have f0 := hrow.frozen (0 + (k * 3 + 0))
      have o1 := hrow.cell (show k * 3 + 1 < n * 3 by omega)
      have f1 := hrow.frozen (0 + (k * 3 + 1))
      have o2 := hrow.cell (show k * 3 + 2 < n * 3 by omega)
      have f2 := hrow.frozen (0 + (k * 3 + 2))
      simp only [Nat.zero_add, Nat.add_zero] at o0 f0 o1 f1 o2 f2
      have HB2 := Lib.hid (HB.out.trans (hb1.mono HB.out.size))
      have HR2 := Lib.hid hrow
      clear hrow hb1 HR HB
      go_wp2
      go_roundw
      case rel => exact ⟨k + 1, by omega, by go_num, (HR2.out.set3 (by omega) (.int .i64 (x (k * 3))) (.int .i64 (x (k * 3 + 1))) (.int .i64 (x (k * 3 + 2)))).congr (next3 k x), below_set3 HB2.out (Nat.le_refl _) _ _ _⟩
      case measure => simp [intOf]; omega
    · go_wp2
      go_ret
      exact ⟨rfl, hrow.congr (fun j hj => by rw [if_pos (by omega)]), hb⟩

/-- eqReadyS of two slices that read alike: true. -/
theorem eqReadyS_same (lo hi lo' hi' : Nat) (A A' : Option Addr) (n c c' : Nat) (x : Nat → Int) (w : World) (hn : n * 24 ≤ 140737488351232)
    (h : Sl w lo hi A (n * 3) (fun k => .int .i64 (x k))) (h' : Sl w lo' hi' A' (n * 3) (fun k => .int .i64 (x k))) :
    Calls Try.prog 27 #[.slice A n c, .slice A' n c'] w fun e w' => e = .returned (.bool true) ∧ Below w.heap.size w w' := by
  have H := Lib.hid h
  have H' := Lib.hid h'
  clear h h'
  go_enter Try.func27, Try.ntmps27
  go_wp2
  go_loopw [5] (fun i wr => ∃ k : Nat, k ≤ n ∧ i = .int .i64 k ∧ Below w.heap.size w wr) (fun i _ => n - (intOf i).toNat)
  case atStart => exact ⟨0, Nat.zero_le _, rfl, Below.refl _ _⟩
  case round =>
    obtain ⟨k, hk, rfl, hb⟩ := hrel
    by_cases hlt : k < n
    · obtain ⟨b, off, rfl, h1, h2, hc⟩ := H.out.lt.at_ (show k * 3 < n * 3 by omega)
      obtain ⟨b', off', rfl, h1', h2', hc'⟩ := H'.out.lt.at_ (show k * 3 < n * 3 by omega)
      have p0 : wr.cell? ⟨b, off + k * 3, none⟩ = some (.int .i64 (x (k * 3))) := (hb.cell (p := ⟨b, off + (k * 3), none⟩) (by simp; omega)).trans (hc (k * 3) (by omega))
      have p1 : wr.cell? ⟨b, off + k * 3 + 1, none⟩ = some (.int .i64 (x (k * 3 + 1))) := (hb.cell (p := ⟨b, off + (k * 3 + 1), none⟩) (by simp; omega)).trans (hc (k * 3 + 1) (by omega))
      have p2 : wr.cell? ⟨b, off + k * 3 + 2, none⟩ = some (.int .i64 (x (k * 3 + 2))) := (hb.cell (p := ⟨b, off + (k * 3 + 2), none⟩) (by simp; omega)).trans (hc (k * 3 + 2) (by omega))
      have q0 : wr.cell? ⟨b', off' + k * 3, none⟩ = some (.int .i64 (x (k * 3))) := (hb.cell (p := ⟨b', off' + (k * 3), none⟩) (by simp; omega)).trans (hc' (k * 3) (by omega))
      have q1 : wr.cell? ⟨b', off' + k * 3 + 1, none⟩ = some (.int .i64 (x (k * 3 + 1))) := (hb.cell (p := ⟨b', off' + (k * 3 + 1), none⟩) (by simp; omega)).trans (hc' (k * 3 + 1) (by omega))
      have q2 : wr.cell? ⟨b', off' + k * 3 + 2, none⟩ = some (.int .i64 (x (k * 3 + 2))) := (hb.cell (p := ⟨b', off' + (k * 3 + 2), none⟩) (by simp; omega)).trans (hc' (k * 3 + 2) (by omega))
      have HB := Lib.hid hb
      clear hb hc hc' H H'
      go_wp2_with fail
      go_region_with (refine (eqReady_same _ _ _ _).mono ?_; rintro e w1 ⟨rfl, hb1⟩; have HB1 := Lib.hid ((below_drewN HB.out 1).trans (hb1.mono HB.out.size)); clear hb1)
      all_goals
        go_wp2
        go_roundw
        case rel => exact ⟨k + 1, by omega, by go_num, HB1.out⟩
        case measure => simp [intOf]; omega
    · go_wp2
      go_ret
      exact ⟨rfl, hb⟩

theorem szReadyS_any (A : Option Addr) (n c : Nat) (w : World) (hn : n ≤ 9223372036854775807) :
    Calls Try.prog 17 #[.slice A n c, .int .i64 1048576] w fun e w' => e = .returned (.int .i64 (if n ≤ 1048576 then 1048576 - (n : Int) else -1)) ∧ w = w' := by
  have wn : IntKind.i64.wrap (1048576 - (n : Int)) = 1048576 - (n : Int) := IntWalk.i64_in _ (by omega)
  by_cases h : n ≤ 1048576
  · have h1 : ¬ (1048576 - (n : Int) < 0) := by omega
    go_enter Try.func17, Try.ntmps17
    go_wp2
    go_ret
    exact ⟨ret_i64 (by first | rfl | exact (if_pos h).symm | simp [h]), rfl⟩
  · have h1 : 1048576 - (n : Int) < 0 := by omega
    go_enter Try.func17, Try.ntmps17
    go_wp2
    go_ret
    exact ⟨ret_i64 (by first | rfl | exact (if_neg h).symm | simp [h]), rfl⟩
theorem szSched_any (A : Option Addr) (n c : Nat) (b : Int) (w : World) (hn : n ≤ 9223372036854775807) :
    Calls Try.prog 10 #[.agg #[.int .i64 b, .slice A n c], .int .i64 1048576] w fun e w' => e = .returned (.int .i64 (if n ≤ 1048576 then 1048576 - (n : Int) else -1)) ∧ Below w.heap.size w w' := by
  have B1 : Hid (∀ o, Below w.heap.size w (w.alloc o)) := fun o => (Below.refl _ _).alloc (Nat.le_refl _) o
  have SZ := Lib.hid (szReadyS_any A n c)
  by_cases h : n ≤ 1048576
  · have h1 : ¬ (1048576 - (n : Int) < 0) := by omega
    rw [if_pos h] at SZ ⊢
    have HN := Lib.hid hn
    clear h hn
    go_enter Try.func10, Try.ntmps10
    go_wp2_with fail
    refine (SZ.out _ HN.out).mono ?_
    rintro e w' ⟨rfl, rfl⟩
    go_wp2
    go_ret
    exact ⟨rfl, B1.out _⟩
  · rw [if_neg h] at SZ ⊢
    have HN := Lib.hid hn
    clear h hn
    go_enter Try.func10, Try.ntmps10
    go_wp2_with fail
    refine (SZ.out _ HN.out).mono ?_
    rintro e w' ⟨rfl, rfl⟩
    go_wp2
    go_ret
    exact ⟨rfl, B1.out _⟩

set_option maxHeartbeats 1000000 in
/-- toSched: the same schedule, in a row of its own -/
theorem toSched_any (lo hi : Nat) (A : Option Addr) (n c : Nat) (b : Int) (x : Nat → Int) (w : World) (hn : n * 24 ≤ 140737488351232) (h : Sl w lo hi A (n * 3) (fun k => .int .i64 (x k))) :
    Calls Try.prog 12 #[.agg #[.int .i64 b, .slice A n c]] w fun e w' => ∃ u, e = .returned (.agg #[.int .i64 b, .slice (some ⟨u, 0, none⟩) n n]) ∧ (w.heap.size ≤ u ∧ u < w'.heap.size) ∧ Row w' u 0 51 (n * 3) (fun k => .int .i64 (x k)) ∧ Below w.heap.size w w' := by
  have R := Lib.hid h.lt
  clear h
  go_enter Try.func12, Try.ntmps12
  go_wp2_with fail
  obtain ⟨W3, hW3⟩ : ∃ W3, W3 = ((w.alloc (.cells #[.int .i64 b, .slice A n c] 31)).alloc (.cells #[.int .i64 0, .slice none 0 0] 36)).alloc (.cells #[.int .i64 b, .slice none 0 0] 36) := ⟨_, rfl⟩
  have B3 : Below w.heap.size w W3 := by rw [hW3]; exact ((below_new w _).alloc (by simp) _).alloc (by simp; omega) _
  have Z3 : W3.heap.size = w.heap.size + 3 := by rw [hW3]; simp
  have X1 : W3.heap[w.heap.size + 1]? = some (.cells #[.int .i64 0, .slice none 0 0] 36 (0, 0)) := by
    rw [hW3]; exact (Below.heap_alloc _ _ _ (by simp)).trans (heap_alloc2_new w _ _)
  have X2 : W3.heap[w.heap.size + 1 + 1]? = some (.cells #[.int .i64 b, .slice none 0 0] 36 (0, 0)) := by
    have := heap_alloc_new ((w.alloc (.cells #[.int .i64 b, .slice A n c] 31)).alloc (.cells #[.int .i64 0, .slice none 0 0] 36)) (.cells #[.int .i64 b, .slice none 0 0] 36)
    rw [hW3]
    simpa only [World.size_alloc] using this
  rw [← hW3]
  clear hW3
  refine (toReadyS_any lo (min hi w.heap.size) A n c x W3 hn (R.out.below B3 (Nat.min_le_right _ _)) (by omega)).mono ?_
  rintro e w4 ⟨rfl, hrow, hb⟩
  have Y1 := (hb.block (w.heap.size + 1) (by omega)).trans X1
  have Y2 := (hb.block (w.heap.size + 1 + 1) (by omega)).trans X2
  have HR := Lib.hid hrow
  have B4 := Lib.hid (B3.trans (hb.mono (by omega)))
  have ZS := Lib.hid (show W3.heap.size = w.heap.size + 3 from Z3)
  have Z4 := Lib.hid (show w.heap.size + 3 < w4.heap.size by have := hrow.lt; omega)
  obtain ⟨u, hu⟩ : ∃ u, u = W3.heap.size := ⟨_, rfl⟩
  rw [← hu] at HR ZS ⊢
  have HY1 := Lib.hid Y1; have HY2 := Lib.hid Y2
  have c0 := cell_of_row w4 _ 0 _ _ _ Y2; have c1 := cell_of_row w4 _ 1 _ _ _ Y2; have g0 := frozen_of_row w4 _ 0 _ _ Y2; have g1 := frozen_of_row w4 _ 1 _ _ Y2
  have d0 := cell_of_row w4 _ 0 _ _ _ Y1; have d1 := cell_of_row w4 _ 1 _ _ _ Y1; have k0 := frozen_of_row w4 _ 0 _ _ Y1; have k1 := frozen_of_row w4 _ 1 _ _ Y1
  simp at c0 c1 d0 d1
  clear hrow hb X1 X2 Y1 Y2 B3 Z3 hu R
  go_wp2
  have Y3 : (w4.setCell ⟨w.heap.size + 1 + 1, 1, none⟩ (.slice (some ⟨u, 0, none⟩) n n)).heap[w.heap.size + 1]? = some (.cells #[.int .i64 0, .slice none 0 0] 36 (0, 0)) := (Below.heap_setCell _ _ _ _ (by simp)).trans HY1.out
  refine bodyPost_ret (results_cell_row rfl _ _ _ _ _ (0, 0) _ rfl (heap_setCell_same _ _ 1 _ _ _ (heap_setCell_same _ _ 0 _ _ _ Y3)) Try.underlying36 rfl (by kernel_rfl)) rfl ?_
  refine ⟨u, rfl, ⟨by have := ZS.out; omega, by have := Z4.out; have := ZS.out; simp; omega⟩, ?_, ?_⟩
  · exact ((HR.out.far (p := ⟨w.heap.size + 1 + 1, 1, none⟩) (by have := ZS.out; simp; omega) _).far (p := ⟨w.heap.size + 1, 0, none⟩) (by have := ZS.out; simp; omega) _).far (p := ⟨w.heap.size + 1, 1, none⟩) (by have := ZS.out; simp; omega) _
  · exact ((B4.out.setCell (p := ⟨w.heap.size + 1 + 1, 1, none⟩) (by simp; omega) _).setCell (p := ⟨w.heap.size + 1, 0, none⟩) (by simp) _).setCell (p := ⟨w.heap.size + 1, 1, none⟩) (by simp) _

theorem eqSched_same (lo hi lo' hi' : Nat) (A A' : Option Addr) (n c c' : Nat) (b : Int) (x : Nat → Int) (w : World) (hn : n * 24 ≤ 140737488351232)
    (h : Sl w lo hi A (n * 3) (fun k => .int .i64 (x k))) (h' : Sl w lo' hi' A' (n * 3) (fun k => .int .i64 (x k))) :
    Calls Try.prog 14 #[.agg #[.int .i64 b, .slice A n c], .agg #[.int .i64 b, .slice A' n c']] w fun e w' => e = .returned (.bool true) ∧ Below w.heap.size w w' := by
  have H := Lib.hid h
  have H' := Lib.hid h'
  clear h h'
  have B2 : ∀ o o', Below w.heap.size w ((w.alloc o).alloc o') := fun o o' => ((Below.refl _ _).alloc (Nat.le_refl _) o).alloc (by simp) o'
  have HB2 := Lib.hid B2
  clear B2
  go_enter Try.func14, Try.ntmps14
  go_wp2_with fail
  refine (eqReadyS_same lo (min hi w.heap.size) lo' (min hi' w.heap.size) A A' n c c' x _ (by omega) (H.out.lt.below (HB2.out _ _) (by omega)) (H'.out.lt.below (HB2.out _ _) (by omega))).mono ?_
  rintro e w' ⟨rfl, hb⟩
  have HB := Lib.hid ((HB2.out _ _).trans (hb.mono (by simp; omega)))
  clear hb
  go_wp2
  go_ret
  exact ⟨rfl, HB.out⟩

theorem Kept.of_only5 {g : Nat} {w w' : World} (h : Only g (g + 1) w w') : Kept [g] w w' :=
  ⟨h.1.mono (Nat.zero_le _), fun b hb hn => by
    simp at hn
    rcases Nat.lt_or_ge b g with h1 | h1
    · exact h.1.block b h1
    · exact h.2 b (by omega) hb⟩
theorem Kept.pre_below5 {gs : List Nat} {a b c : World} (h : Below a.heap.size a b) (k : Kept gs b c) : Kept gs a c := (Kept.of_below h gs).trans k
end Go.Proofs.Ytkhphkfbjbhgaaa
