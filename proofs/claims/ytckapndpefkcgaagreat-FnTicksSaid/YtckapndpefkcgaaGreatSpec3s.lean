/-
  The model's SameKernels, for every two kernels that can be read.
-/
import Derived.Test.YtckapndpefkcgaaGreatSpec3b
import Derived.Test.YtckapndpefkcgaaGreatU8s
set_option maxHeartbeats 1000000
namespace Go.Proofs.YtckapndpefkcgaaGreat
open Go.RowKit
set_option maxRecDepth 100000

theorem run_neq_two (u x g d u2 x2 g2 d2 : Int) (z : Bool) (h : (u == u2 && x == x2 && g == g2 && d == d2) = !z) (W : World) : (binOp .neq 68 (.agg #[.int .i64 u, .int .i64 x, .int .i64 g, .int .i64 d]) (.agg #[.int .i64 u2, .int .i64 x2, .int .i64 g2, .int .i64 d2])).run Tryz.prog W = .ok (.bool z) W := by
  obtain rfl : z = !(u == u2 && x == x2 && g == g2 && d == d2) := by rw [h]; simp
  simp [go_sem]
  try grind

set_option maxHeartbeats 2000000 in
theorem specSameKernels_any (lo hi lo' hi' : Nat) (A1 : Option Addr) (n1 c1 : Nat) (A2 : Option Addr) (n2 c2 : Nat) (A3 : Option Addr) (n3 c3 : Nat) (A1' : Option Addr) (n1' c1' : Nat) (A2' : Option Addr) (n2' c2' : Nat) (A3' : Option Addr) (n3' c3' : Nat) (K K' : Ker) (w : World) (hn1 : n1 * 8 ≤ 140737488351232) (hn2 : n2 * 8 ≤ 140737488351232) (hn3 : n3 * 32 ≤ 140737488351232)
    (h : KRead w lo hi A1 n1 A2 n2 A3 n3 K) (h' : KRead w lo' hi' A1' n1' A2' n2' A3' n3' K') :
    Calls Tryz.prog 43 #[.agg #[.slice A1 n1 c1, .slice A2 n2 c2, .slice A3 n3 c3, .int .i64 K.tick, .int .i64 K.run], .agg #[.slice A1' n1' c1', .slice A2' n2' c2', .slice A3' n3' c3', .int .i64 K'.tick, .int .i64 K'.run]] w fun e w' => e = .returned (.bool (decide (K = K'))) ∧ Below w.heap.size w w' := by
  have K1 : Hid (((w.alloc (.cells #[.slice A1 n1 c1, .slice A2 n2 c2, .slice A3 n3 c3, .int .i64 K.tick, .int .i64 K.run] 39)).alloc (.cells #[.slice A1' n1' c1', .slice A2' n2' c2', .slice A3' n3' c3', .int .i64 K'.tick, .int .i64 K'.run] 39)).heap[w.heap.size]? = some (.cells #[.slice A1 n1 c1, .slice A2 n2 c2, .slice A3 n3 c3, .int .i64 K.tick, .int .i64 K.run] 39 (0, 0))) := heap_alloc2_old w _ _
  have K2 : Hid (((w.alloc (.cells #[.slice A1 n1 c1, .slice A2 n2 c2, .slice A3 n3 c3, .int .i64 K.tick, .int .i64 K.run] 39)).alloc (.cells #[.slice A1' n1' c1', .slice A2' n2' c2', .slice A3' n3' c3', .int .i64 K'.tick, .int .i64 K'.run] 39)).heap[w.heap.size + 1]? = some (.cells #[.slice A1' n1' c1', .slice A2' n2' c2', .slice A3' n3' c3', .int .i64 K'.tick, .int .i64 K'.run] 39 (0, 0))) := heap_alloc2_new w _ _
  have B2 : Hid (Below w.heap.size w ((w.alloc (.cells #[.slice A1 n1 c1, .slice A2 n2 c2, .slice A3 n3 c3, .int .i64 K.tick, .int .i64 K.run] 39)).alloc (.cells #[.slice A1' n1' c1', .slice A2' n2' c2', .slice A3' n3' c3', .int .i64 K'.tick, .int .i64 K'.run] 39))) := ((Below.refl _ _).alloc (Nat.le_refl _) _).alloc (by simp) _
  have S2 : Hid (((w.alloc (.cells #[.slice A1 n1 c1, .slice A2 n2 c2, .slice A3 n3 c3, .int .i64 K.tick, .int .i64 K.run] 39)).alloc (.cells #[.slice A1' n1' c1', .slice A2' n2' c2', .slice A3' n3' c3', .int .i64 K'.tick, .int .i64 K'.run] 39)).heap.size = w.heap.size + 2) := by show _ = _; simp
  have Q1 : Hid (∀ W, Below (w.heap.size + 2) ((w.alloc (.cells #[.slice A1 n1 c1, .slice A2 n2 c2, .slice A3 n3 c3, .int .i64 K.tick, .int .i64 K.run] 39)).alloc (.cells #[.slice A1' n1' c1', .slice A2' n2' c2', .slice A3' n3' c3', .int .i64 K'.tick, .int .i64 K'.run] 39)) W → W.cell? ⟨w.heap.size, 0, none⟩ = some (.slice A1 n1 c1) ∧ W.cell? ⟨w.heap.size, 1, none⟩ = some (.slice A2 n2 c2) ∧ W.cell? ⟨w.heap.size, 2, none⟩ = some (.slice A3 n3 c3) ∧ W.cell? ⟨w.heap.size, 3, none⟩ = some (.int .i64 K.tick) ∧ W.cell? ⟨w.heap.size, 4, none⟩ = some (.int .i64 K.run)) := fun W hB => ⟨cell_of_row W _ 0 _ _ _ ((hB.block _ (by omega)).trans K1.out), cell_of_row W _ 1 _ _ _ ((hB.block _ (by omega)).trans K1.out), cell_of_row W _ 2 _ _ _ ((hB.block _ (by omega)).trans K1.out), cell_of_row W _ 3 _ _ _ ((hB.block _ (by omega)).trans K1.out), cell_of_row W _ 4 _ _ _ ((hB.block _ (by omega)).trans K1.out)⟩
  have Q2 : Hid (∀ W, Below (w.heap.size + 2) ((w.alloc (.cells #[.slice A1 n1 c1, .slice A2 n2 c2, .slice A3 n3 c3, .int .i64 K.tick, .int .i64 K.run] 39)).alloc (.cells #[.slice A1' n1' c1', .slice A2' n2' c2', .slice A3' n3' c3', .int .i64 K'.tick, .int .i64 K'.run] 39)) W → W.cell? ⟨w.heap.size + 1, 0, none⟩ = some (.slice A1' n1' c1') ∧ W.cell? ⟨w.heap.size + 1, 1, none⟩ = some (.slice A2' n2' c2') ∧ W.cell? ⟨w.heap.size + 1, 2, none⟩ = some (.slice A3' n3' c3') ∧ W.cell? ⟨w.heap.size + 1, 3, none⟩ = some (.int .i64 K'.tick) ∧ W.cell? ⟨w.heap.size + 1, 4, none⟩ = some (.int .i64 K'.run)) := fun W hB => ⟨cell_of_row W _ 0 _ _ _ ((hB.block _ (by omega)).trans K2.out), cell_of_row W _ 1 _ _ _ ((hB.block _ (by omega)).trans K2.out), cell_of_row W _ 2 _ _ _ ((hB.block _ (by omega)).trans K2.out), cell_of_row W _ 3 _ _ _ ((hB.block _ (by omega)).trans K2.out), cell_of_row W _ 4 _ _ _ ((hB.block _ (by omega)).trans K2.out)⟩
  have R := Lib.hid (h.lt.below B2.out (Nat.min_le_right _ _))
  have R' := Lib.hid (h'.lt.below B2.out (Nat.min_le_right _ _))
  have R0 : Hid (Below (w.heap.size + 2) ((w.alloc (.cells #[.slice A1 n1 c1, .slice A2 n2 c2, .slice A3 n3 c3, .int .i64 K.tick, .int .i64 K.run] 39)).alloc (.cells #[.slice A1' n1' c1', .slice A2' n2' c2', .slice A3' n3' c3', .int .i64 K'.tick, .int .i64 K'.run] 39)) ((w.alloc (.cells #[.slice A1 n1 c1, .slice A2 n2 c2, .slice A3 n3 c3, .int .i64 K.tick, .int .i64 K.run] 39)).alloc (.cells #[.slice A1' n1' c1', .slice A2' n2' c2', .slice A3' n3' c3', .int .i64 K'.tick, .int .i64 K'.run] 39))) := Below.refl _ _
  obtain ⟨l1, l2, l3⟩ := h.1
  obtain ⟨l1', l2', l3'⟩ := h'.1
  have SI : Hid (Calls Tryz.prog 97 #[.slice A1 n1 c1, .slice A1' n1' c1'] ((w.alloc (.cells #[.slice A1 n1 c1, .slice A2 n2 c2, .slice A3 n3 c3, .int .i64 K.tick, .int .i64 K.run] 39)).alloc (.cells #[.slice A1' n1' c1', .slice A2' n2' c2', .slice A3' n3' c3', .int .i64 K'.tick, .int .i64 K'.run] 39)) fun e w' => e = .returned (.bool (decide (K.os = K'.os))) ∧ Below ((w.alloc (.cells #[.slice A1 n1 c1, .slice A2 n2 c2, .slice A3 n3 c3, .int .i64 K.tick, .int .i64 K.run] 39)).alloc (.cells #[.slice A1' n1' c1', .slice A2' n2' c2', .slice A3' n3' c3', .int .i64 K'.tick, .int .i64 K'.run] 39)).heap.size ((w.alloc (.cells #[.slice A1 n1 c1, .slice A2 n2 c2, .slice A3 n3 c3, .int .i64 K.tick, .int .i64 K.run] 39)).alloc (.cells #[.slice A1' n1' c1', .slice A2' n2' c2', .slice A3' n3' c3', .int .i64 K'.tick, .int .i64 K'.run] 39)) w') := specSameInts_any lo (min hi w.heap.size) lo' (min hi' w.heap.size) A1 A1' K.os K'.os n1 n1' c1 c1' _ hn1 l1 l1' R.out.2.1 R'.out.2.1
  have L2 := Lib.hid l2; have L3 := Lib.hid l3; have L2' := Lib.hid l2'; have L3' := Lib.hid l3'
  clear h h' l1 l2 l3 l1' l2' l3'
  by_cases ho : K.os = K'.os
  case neg =>
    have hoa : decide (K.os = K'.os) = false := by simp [ho]
    rw [hoa] at SI
    go_enter Tryz.func43, Tryz.ntmps43
    go_wp2_with fail
    refine (SI.out).mono ?_
    rintro e w1 ⟨rfl, hb⟩
    have H1 := Lib.hid (R0.out.trans (hb.mono (by have := S2.out; omega)))
    obtain ⟨x0, x1, x2, x3, x4⟩ := Q1.out _ H1.out
    obtain ⟨y0, y1, y2, y3, y4⟩ := Q2.out _ H1.out
    clear hb
    go_wp2
    go_ret
    exact ⟨ret_false (fun hk => ho (by rw [hk])), B2.out.trans (H1.out.mono (by omega))⟩
  have hoa : decide (K.os = K'.os) = true := by simp [ho]
  rw [hoa] at SI
  clear hoa
  by_cases h2 : n2 = n2'
  case neg =>
    have h2a : ((n2 : Int) != (n2' : Int)) = true := by simp; omega
    have h2b : ((n2 : Int) == (n2' : Int)) = false := by simp; omega
    go_enter Tryz.func43, Tryz.ntmps43
    go_wp2_with fail
    refine (SI.out).mono ?_
    rintro e w1 ⟨rfl, hb⟩
    have H1 := Lib.hid (R0.out.trans (hb.mono (by have := S2.out; omega)))
    obtain ⟨x0, x1, x2, x3, x4⟩ := Q1.out _ H1.out
    obtain ⟨y0, y1, y2, y3, y4⟩ := Q2.out _ H1.out
    clear hb
    go_wp2
    go_ret
    exact ⟨ret_false (fun hk => h2 (by rw [← L2.out, ← L2'.out, hk])), B2.out.trans (H1.out.mono (by omega))⟩
  by_cases h3 : n3 = n3'
  case neg =>
    have h3a : ((n3 : Int) != (n3' : Int)) = true := by simp; omega
    have h3b : ((n3 : Int) == (n3' : Int)) = false := by simp; omega
    subst h2
    go_enter Tryz.func43, Tryz.ntmps43
    go_wp2_with fail
    refine (SI.out).mono ?_
    rintro e w1 ⟨rfl, hb⟩
    have H1 := Lib.hid (R0.out.trans (hb.mono (by have := S2.out; omega)))
    obtain ⟨x0, x1, x2, x3, x4⟩ := Q1.out _ H1.out
    obtain ⟨y0, y1, y2, y3, y4⟩ := Q2.out _ H1.out
    clear hb
    go_wp2
    go_ret
    exact ⟨ret_false (fun hk => h3 (by have e1 := L3.out; have e2 := L3'.out; rw [hk] at e1; omega)), B2.out.trans (H1.out.mono (by omega))⟩
  subst h2 h3
  by_cases h4 : K.tick = K'.tick
  case neg =>
    have h4a : (K.tick != K'.tick) = true := by simp [h4]
    have h4b : (K.tick == K'.tick) = false := by simp [h4]
    go_enter Tryz.func43, Tryz.ntmps43
    go_wp2_with fail
    refine (SI.out).mono ?_
    rintro e w1 ⟨rfl, hb⟩
    have H1 := Lib.hid (R0.out.trans (hb.mono (by have := S2.out; omega)))
    obtain ⟨x0, x1, x2, x3, x4⟩ := Q1.out _ H1.out
    obtain ⟨y0, y1, y2, y3, y4⟩ := Q2.out _ H1.out
    clear hb
    go_wp2
    go_ret
    exact ⟨ret_false (fun hk => h4 (by rw [hk])), B2.out.trans (H1.out.mono (by omega))⟩
  have H4 := Lib.hid h4
  have h4a : (K.tick != K'.tick) = false := by simp [h4]
  have h4b : (K.tick == K'.tick) = true := by simp [h4]
  clear h4
  by_cases h5 : K.run = K'.run
  case neg =>
    have h5a : (K.run != K'.run) = true := by simp [h5]
    have h5b : (K.run == K'.run) = false := by simp [h5]
    go_enter Tryz.func43, Tryz.ntmps43
    go_wp2_with fail
    refine (SI.out).mono ?_
    rintro e w1 ⟨rfl, hb⟩
    have H1 := Lib.hid (R0.out.trans (hb.mono (by have := S2.out; omega)))
    obtain ⟨x0, x1, x2, x3, x4⟩ := Q1.out _ H1.out
    obtain ⟨y0, y1, y2, y3, y4⟩ := Q2.out _ H1.out
    clear hb
    go_wp2
    go_ret
    exact ⟨ret_false (fun hk => h5 (by rw [hk])), B2.out.trans (H1.out.mono (by omega))⟩
  · have HO := Lib.hid ho; have H5 := Lib.hid h5
    have h5a : (K.run != K'.run) = false := by simp [h5]
    have h5b : (K.run == K'.run) = true := by simp [h5]
    clear ho h5
    go_enter Tryz.func43, Tryz.ntmps43
    go_wp2_with fail
    refine (SI.out).mono ?_
    rintro e w1 ⟨rfl, hb⟩
    have H1 := Lib.hid (R0.out.trans (hb.mono (by have := S2.out; omega)))
    obtain ⟨x0, x1, x2, x3, x4⟩ := Q1.out _ H1.out
    obtain ⟨y0, y1, y2, y3, y4⟩ := Q2.out _ H1.out
    clear hb
    go_wp2
    clear x0 x1 x2 x3 x4 y0 y1 y2 y3 y4
    go_loopw [5] (fun i wr => ∃ k : Nat, k ≤ n2 ∧ i = .int .i64 k ∧ Below (w.heap.size + 2) ((w.alloc (.cells #[.slice A1 n1 c1, .slice A2 n2 c2, .slice A3 n3 c3, .int .i64 K.tick, .int .i64 K.run] 39)).alloc (.cells #[.slice A1' n1' c1', .slice A2' n2 c2', .slice A3' n3 c3', .int .i64 K'.tick, .int .i64 K'.run] 39)) wr ∧ ∀ j, j < k → gb K.al j = gb K'.al j) (fun i _ => n2 - (intOf i).toNat)
    case atStart => exact ⟨0, Nat.zero_le _, rfl, H1.out, fun j hj => absurd hj (Nat.not_lt_zero _)⟩
    case round =>
      obtain ⟨k, hk, rfl, hb, hs⟩ := hrel
      obtain ⟨x0, x1, x2, x3, x4⟩ := Q1.out _ hb
      obtain ⟨y0, y1, y2, y3, y4⟩ := Q2.out _ hb
      have HB := Lib.hid hb; have HS := Lib.hid hs
      by_cases hlt : k < n2
      · obtain ⟨b, o, rfl, _, _, hc⟩ := (R.out.below hb (by omega)).2.2.1.at_ hlt
        obtain ⟨b', o', rfl, _, _, hc'⟩ := (R'.out.below hb (by omega)).2.2.1.at_ hlt
        have a0 := hc k hlt
        have a1 := hc' k hlt
        clear hb hs hc hc'
        by_cases he : gb K.al k = gb K'.al k
        · have GO : Hid (∀ j, j < k + 1 → gb K.al j = gb K'.al j) := upto_succ HS.out he
          cases hv : gb K.al k
          all_goals
            rw [hv] at a0 he
            rw [← he] at a1
            clear he
            go_wp2_with fail
            go_quiet (fail)
            go_wp2
            go_roundw
            case rel => exact ⟨k + 1, by omega, by go_num, below_drewN HB.out _, GO.out⟩
            case measure => simp [intOf]; omega
        · have HN : Hid (K ≠ K') := fun hk => he (by rw [hk])
          cases hv : gb K.al k
          · have hv' : gb K'.al k = true := by cases h9 : gb K'.al k; exact absurd (hv.trans h9.symm) he; rfl
            rw [hv] at a0; rw [hv'] at a1
            clear he
            go_wp2_with fail
            go_quiet (fail)
            go_wp2
            go_ret
            exact ⟨ret_false HN.out, B2.out.trans ((below_drewN HB.out _).mono (by omega))⟩
          · have hv' : gb K'.al k = false := by cases h9 : gb K'.al k; rfl; exact absurd (hv.trans h9.symm) he
            rw [hv] at a0; rw [hv'] at a1
            clear he
            go_wp2_with fail
            go_quiet (fail)
            go_wp2
            go_ret
            exact ⟨ret_false HN.out, B2.out.trans ((below_drewN HB.out _).mono (by omega))⟩
      · have HAL : Hid (K.al = K'.al) := same_bools L2.out L2'.out fun j hj => hs j (by omega)
        clear hs hb
        go_wp2
        clear x0 x1 x2 x3 x4 y0 y1 y2 y3 y4
        go_loopw [6] (fun i wr => ∃ k : Nat, k ≤ n3 ∧ i = .int .i64 k ∧ Below (w.heap.size + 2) ((w.alloc (.cells #[.slice A1 n1 c1, .slice A2 n2 c2, .slice A3 n3 c3, .int .i64 K.tick, .int .i64 K.run] 39)).alloc (.cells #[.slice A1' n1' c1', .slice A2' n2 c2', .slice A3' n3 c3', .int .i64 K'.tick, .int .i64 K'.run] 39)) wr ∧ ∀ j, j < k * 4 → gi K.ac j = gi K'.ac j) (fun i _ => n3 - (intOf i).toNat)
        case atStart => exact ⟨0, Nat.zero_le _, rfl, HB.out, fun j hj => absurd hj (by omega)⟩
        case round =>
          obtain ⟨k2, hk2, rfl, hb, hs⟩ := hrel
          obtain ⟨x0, x1, x2, x3, x4⟩ := Q1.out _ hb
          obtain ⟨y0, y1, y2, y3, y4⟩ := Q2.out _ hb
          have HB2 := Lib.hid hb; have HS2 := Lib.hid hs
          by_cases hlt2 : k2 < n3
          · obtain ⟨b, o, rfl, _, _, hc⟩ := (R.out.below hb (by omega)).2.2.2.at_ (show k2 * 4 < n3 * 4 by omega)
            obtain ⟨b', o', rfl, _, _, hc'⟩ := (R'.out.below hb (by omega)).2.2.2.at_ (show k2 * 4 < n3 * 4 by omega)
            have d0 := hc (k2 * 4) (by omega)
            have d1 : wr.cell? ⟨b, o + k2 * 4 + 1, none⟩ = some (Value.int .i64 (gi K.ac (k2 * 4 + 1))) := hc (k2 * 4 + 1) (by omega)
            have d2 : wr.cell? ⟨b, o + k2 * 4 + 2, none⟩ = some (Value.int .i64 (gi K.ac (k2 * 4 + 2))) := hc (k2 * 4 + 2) (by omega)
            have d3 : wr.cell? ⟨b, o + k2 * 4 + 3, none⟩ = some (Value.int .i64 (gi K.ac (k2 * 4 + 3))) := hc (k2 * 4 + 3) (by omega)
            have e0 := hc' (k2 * 4) (by omega)
            have e1 : wr.cell? ⟨b', o' + k2 * 4 + 1, none⟩ = some (Value.int .i64 (gi K'.ac (k2 * 4 + 1))) := hc' (k2 * 4 + 1) (by omega)
            have e2 : wr.cell? ⟨b', o' + k2 * 4 + 2, none⟩ = some (Value.int .i64 (gi K'.ac (k2 * 4 + 2))) := hc' (k2 * 4 + 2) (by omega)
            have e3 : wr.cell? ⟨b', o' + k2 * 4 + 3, none⟩ = some (Value.int .i64 (gi K'.ac (k2 * 4 + 3))) := hc' (k2 * 4 + 3) (by omega)
            clear hb hs hc hc'
            cases hz : (gi K.ac (k2 * 4) == gi K'.ac (k2 * 4) && gi K.ac (k2 * 4 + 1) == gi K'.ac (k2 * 4 + 1) && gi K.ac (k2 * 4 + 2) == gi K'.ac (k2 * 4 + 2) && gi K.ac (k2 * 4 + 3) == gi K'.ac (k2 * 4 + 3))
            · have na := run_neq_two _ _ _ _ _ _ _ _ true hz
              have HN : Hid (K ≠ K') := fun hk => by rw [hk] at hz; simp at hz
              clear hz
              go_wp2_with fail
              go_quiet (fail)
              go_wp2
              go_ret
              exact ⟨ret_false HN.out, B2.out.trans ((below_drewN HB2.out _).mono (by omega))⟩
            · have na := run_neq_two _ _ _ _ _ _ _ _ false hz
              have GO : Hid (∀ j, j < (k2 + 1) * 4 → gi K.ac j = gi K'.ac j) := fun j hj => by
                simp only [Bool.and_eq_true, beq_iff_eq] at hz
                by_cases hlo : j < k2 * 4
                · exact HS2.out j hlo
                · have : j = k2 * 4 ∨ j = k2 * 4 + 1 ∨ j = k2 * 4 + 2 ∨ j = k2 * 4 + 3 := by omega
                  rcases this with rfl | rfl | rfl | rfl
                  · exact hz.1.1.1
                  · exact hz.1.1.2
                  · exact hz.1.2
                  · exact hz.2
              clear hz
              go_wp2_with fail
              go_quiet (fail)
              go_wp2
              go_roundw
              case rel => exact ⟨k2 + 1, by omega, by go_num, below_drewN HB2.out _, GO.out⟩
              case measure => simp [intOf]; omega
          · have HAC : Hid (K.ac = K'.ac) := same_lists L3.out L3'.out fun j hj => hs j (by omega)
            clear hs hb
            go_wp2
            go_ret
            refine ⟨ret_true ?_, B2.out.trans (HB2.out.mono (by omega))⟩
            have e1 := HO.out; have e2 := HAL.out; have e3 := HAC.out; have e4 := H4.out; have e5 := H5.out
            cases K
            cases K'
            simp only at e1 e2 e3 e4 e5
            rw [e1, e2, e3, e4, e5]

end Go.Proofs.YtckapndpefkcgaaGreat
