/-
  The program's pass and wait. No conditions beyond that the lists can be read and that the sentinels lie where they were laid.
-/
import Derived.Test.YtachpoehejdpjaaDoorImpl6a
import Derived.Test.YtachpoehejdpjaaDoorAnsE6
namespace Go.Proofs.YtachpoehejdpjaaDoor
open Go.RowKit
set_option maxRecDepth 100000

set_option maxHeartbeats 4000000 in
theorem pass_any (E : E6) (lo hi : Nat) (A : Option Addr) (n c : Nat) (o : Int) (xs : List Int) (id : Int) (w : World) (hE : Errs E w) (hn : n ≤ 1048576) (hnc : n ≤ c) (ex : xs.length = n) (hA : A = none → c = 0) (h : Sl w lo hi A n (fun k => .int .i64 (gi xs k))) :
    Calls Tryd.prog 35 #[.agg #[.int .i64 o, .slice A n c], .int .i64 id] w (TA E (ps6 o xs id) w) := by
  obtain ⟨w1, hw1⟩ : ∃ w1, w1 = (w.alloc (.cells #[.int .i64 o, .slice A n c] 26)).alloc (.cells #[.int .i64 0, .bool false, .int .i64 0, .int .i64 0, .slice none 0 0, .slice none 0 0] 30) := ⟨_, rfl⟩
  have K1 : Hid (w1.heap[w.heap.size]? = some (.cells #[.int .i64 o, .slice A n c] 26 (0, 0))) := by show _ = _; rw [hw1]; exact heap_alloc2_old w _ _
  have K2 : Hid (w1.heap[w.heap.size + 1]? = some (.cells #[.int .i64 0, .bool false, .int .i64 0, .int .i64 0, .slice none 0 0, .slice none 0 0] 30 (0, 0))) := by show _ = _; rw [hw1]; exact heap_alloc2_new w _ _
  have B1 : Hid (Below w.heap.size w w1) := by rw [hw1]; exact (below_new w _).alloc (by simp) _
  have Z1 : Hid (w1.heap.size = w.heap.size + 2) := by show _ = _; rw [hw1]; simp
  have KB : Hid (∀ W, Below w1.heap.size w1 W → W.heap[w.heap.size]? = some (.cells #[.int .i64 o, .slice A n c] 26 (0, 0))) := fun W hW => (hW.block w.heap.size (by have := Z1.out; omega)).trans K1.out
  have KS : Hid (∀ W, Below w1.heap.size w1 W → W.cell? ⟨w.heap.size, 0, none⟩ = some (.int .i64 o) ∧ W.cell? ⟨w.heap.size, 1, none⟩ = some (.slice A n c)) := fun W hW => by
    have j := KB.out W hW
    exact ⟨cell_of_row W _ 0 _ _ _ j, cell_of_row W _ 1 _ _ _ j⟩
  have KR : Hid (∀ W, Below w1.heap.size w1 W → W.heap[w.heap.size + 1]? = some (.cells #[.int .i64 0, .bool false, .int .i64 0, .int .i64 0, .slice none 0 0, .slice none 0 0] 30 (0, 0))) := fun W hW => (hW.block (w.heap.size + 1) (by have := Z1.out; omega)).trans K2.out
  have FIN : Hid (∀ W, Below w1.heap.size w1 W → Below w.heap.size w W) := fun W hW => B1.out.trans (hW.mono (by have := Z1.out; omega))
  have GE : Hid (∀ W, Below w1.heap.size w1 W → Errs E W) := fun W hW => hE.below (FIN.out W hW)
  have GL := Lib.hid (show 0 < w.heap.size ∧ 2 < w.heap.size ∧ 3 < w.heap.size from ⟨World.block_lt_of_cell? _ _ hE.range.1, World.block_lt_of_cell? _ _ hE.taken.1, World.block_lt_of_cell? _ _ hE.owner.1⟩)
  have HL := Lib.hid h.lt
  have EX := Lib.hid ex
  have NC := Lib.hid hnc
  have HAN := Lib.hid hA
  have IT := Lib.hid (isThread6_any id)
  have HS : Hid (∀ W, Below w1.heap.size w1 W → Calls Tryd.prog 55 #[.slice A n c, .int .i64 id] W fun e w' => e = .returned (.bool (decide (id ∈ xs))) ∧ W = w') := fun W hW =>
    contains6_any lo (min hi w.heap.size) A n c xs id W (by omega) ex (HL.out.below (FIN.out W hW) (by omega))
  have R0 : Hid (Below w1.heap.size w1 w1) := Below.refl _ _
  have HW1 := Lib.hid hw1
  clear hw1 hnc ex hA h hE
  go_enter Tryd.func35, Tryd.ntmps35
  go_upto_region 1 with (fail)
  rw [← HW1.out]
  clear HW1
  go_wp2_with fail
  refine (IT.out _).mono ?_
  rintro e9 w9 ⟨rfl, rfl⟩
  rcases hi : id6 id with _ | _
  · have HB : Hid (ps6 o xs id = z6 3) := by show _ = _; unfold ps6; rw [if_pos hi]
    clear hi
    go_upto_region 2 with (fail)
    have gE := (GE.out w1 R0.out).range.1
    refine wp_region_held_drew (S := fun W => W.cell? ⟨0, 0, none⟩ = some (.iface 92 (.pointer (some E.range)))) (by kernel_rfl) (((GE.out _ (R0.out).drew).range.1)) (fun hHeld => ?_)
    obtain ⟨v0, hv0⟩ : ∃ v0, v0 = w1.drew := ⟨_, rfl⟩
    have BL0 : Hid (Below w1.heap.size w1 v0) := by rw [hv0]; exact Below.drew (Below.refl _ _)
    rw [← hv0] at hHeld ⊢
    clear hv0
    refine wpAnyH_take (i := 0) (oi := _) (v := ?_) rfl (by kernel_rfl) (by kernel_rfl) (by kernel_rfl) (fun _ _ _ h => h) (Or.inl ⟨by rfl, ?_⟩) hHeld ?_
    rotate_left
    · (intro w hSw; (try dsimp only at hSw); go_simp; try with_reducible rfl)
    try simp only [Act.put, List.getElem_toArray, List.getElem_cons_succ, List.getElem_cons_zero, List.setIfInBounds_toArray, List.set_cons_zero, List.set_cons_succ]
    refine wpAnyH_take (i := 1) (oi := _) (v := ?_) rfl (by kernel_rfl) (by kernel_rfl) (by kernel_rfl) (fun _ _ _ h => h) (Or.inl ⟨by rfl, ?_⟩) hHeld ?_
    rotate_left
    · (intro w hSw; (try dsimp only at hSw); go_simp; try with_reducible rfl)
    try simp only [Act.put, List.getElem_toArray, List.getElem_cons_succ, List.getElem_cons_zero, List.setIfInBounds_toArray, List.set_cons_zero, List.set_cons_succ]
    refine wpAnyH_ready (rs := [2]) (by kernel_rfl) (by simp) ?_
    refine AllReadyH.cons (o := _) rfl (fun K0 hK0 => ?_) AllReadyH.nil
    clear hHeld
    rw [if_pos (by rfl)]
    refine wp_store_row 30 _ _ rfl (w.heap.size + 1) _ rfl rfl 30 _ (KR.out _ ((R0.out).trans (BL0.out.mono (R0.out).size))) (by kernel_rfl) rfl (by simp [Value.oneCell']) ?_
    refine hK0.out _ _ ((cell_setRow_other _ _ _ _ (by have := GL.out; first | (simp; done) | (simp; omega))).trans (GE.out _ ((R0.out).trans (BL0.out.mono (R0.out).size))).range.1) (fun hHeld => ?_)
    clear hK0 K0
    try simp only [Act.put, List.getElem_toArray, List.getElem_cons_succ, List.getElem_cons_zero, List.setIfInBounds_toArray, List.set_cons_zero, List.set_cons_succ]
    refine wpAnyH_take (i := 3) (oi := _) (v := ?_) rfl (by kernel_rfl) (by kernel_rfl) (by kernel_rfl) (fun _ _ _ h => h) (Or.inl ⟨by rfl, ?_⟩) hHeld ?_
    rotate_left
    · (intro w hSw; (try dsimp only at hSw); go_simp; try with_reducible rfl)
    try simp only [Act.put, List.getElem_toArray, List.getElem_cons_succ, List.getElem_cons_zero, List.setIfInBounds_toArray, List.set_cons_zero, List.set_cons_succ]
    refine wpAnyH_done (by kernel_rfl) ?_ _
    have BV := Lib.hid ((R0.out).trans (BL0.out.mono (R0.out).size))
    go_wp2
    refine bodyPost_ret (results_row_err rfl _ _ _ _ _ (0, 0) _ rfl (setRow_heap _ _ _ _ _ _ (KR.out _ BV.out)) Tryd.underlying30 rfl (by kernel_rfl) _ rfl) rfl ?_
    rw [HB.out]
    exact ta_err (KR.out _ BV.out) (by omega) (FIN.out _ BV.out) (by decide) rfl
  have HI := Lib.hid hi
  clear hi
  obtain ⟨q0, q1⟩ := KS.out w1 R0.out
  have HA : Hid (ps6 o xs id = if o ≠ id then z6 7 else if xs.length = 0 then (0, false, -1, -1, [], []) else (0, false, gi xs 0, gi xs 0, xs.drop 1, [])) := by
    show _ = _
    unfold ps6
    rw [if_neg (by rw [HI.out]; simp)]
  clear HS
  by_cases ho : o = id
  rotate_left
  · have HB : Hid (ps6 o xs id = z6 7) := by show _ = _; rw [HA.out, if_pos ho]
    have ho' : (o != id) = true := by simp [ho]
    clear ho
    go_upto_region 4 with (fail)
    have gE := (GE.out w1 R0.out).owner.1
    refine wp_region_held_drew (S := fun W => W.cell? ⟨3, 0, none⟩ = some (.iface 92 (.pointer (some E.owner)))) (by kernel_rfl) (((GE.out _ (R0.out).drew).owner.1)) (fun hHeld => ?_)
    obtain ⟨v0, hv0⟩ : ∃ v0, v0 = w1.drew := ⟨_, rfl⟩
    have BL0 : Hid (Below w1.heap.size w1 v0) := by rw [hv0]; exact Below.drew (Below.refl _ _)
    rw [← hv0] at hHeld ⊢
    clear hv0
    refine wpAnyH_take (i := 0) (oi := _) (v := ?_) rfl (by kernel_rfl) (by kernel_rfl) (by kernel_rfl) (fun _ _ _ h => h) (Or.inl ⟨by rfl, ?_⟩) hHeld ?_
    rotate_left
    · (intro w hSw; (try dsimp only at hSw); go_simp; try with_reducible rfl)
    try simp only [Act.put, List.getElem_toArray, List.getElem_cons_succ, List.getElem_cons_zero, List.setIfInBounds_toArray, List.set_cons_zero, List.set_cons_succ]
    refine wpAnyH_take (i := 1) (oi := _) (v := ?_) rfl (by kernel_rfl) (by kernel_rfl) (by kernel_rfl) (fun _ _ _ h => h) (Or.inl ⟨by rfl, ?_⟩) hHeld ?_
    rotate_left
    · (intro w hSw; (try dsimp only at hSw); go_simp; try with_reducible rfl)
    try simp only [Act.put, List.getElem_toArray, List.getElem_cons_succ, List.getElem_cons_zero, List.setIfInBounds_toArray, List.set_cons_zero, List.set_cons_succ]
    refine wpAnyH_ready (rs := [2]) (by kernel_rfl) (by simp) ?_
    refine AllReadyH.cons (o := _) rfl (fun K0 hK0 => ?_) AllReadyH.nil
    clear hHeld
    rw [if_pos (by rfl)]
    refine wp_store_row 30 _ _ rfl (w.heap.size + 1) _ rfl rfl 30 _ (KR.out _ ((R0.out).trans (BL0.out.mono (R0.out).size))) (by kernel_rfl) rfl (by simp [Value.oneCell']) ?_
    refine hK0.out _ _ ((cell_setRow_other _ _ _ _ (by have := GL.out; first | (simp; done) | (simp; omega))).trans (GE.out _ ((R0.out).trans (BL0.out.mono (R0.out).size))).owner.1) (fun hHeld => ?_)
    clear hK0 K0
    try simp only [Act.put, List.getElem_toArray, List.getElem_cons_succ, List.getElem_cons_zero, List.setIfInBounds_toArray, List.set_cons_zero, List.set_cons_succ]
    refine wpAnyH_take (i := 3) (oi := _) (v := ?_) rfl (by kernel_rfl) (by kernel_rfl) (by kernel_rfl) (fun _ _ _ h => h) (Or.inl ⟨by rfl, ?_⟩) hHeld ?_
    rotate_left
    · (intro w hSw; (try dsimp only at hSw); go_simp; try with_reducible rfl)
    try simp only [Act.put, List.getElem_toArray, List.getElem_cons_succ, List.getElem_cons_zero, List.setIfInBounds_toArray, List.set_cons_zero, List.set_cons_succ]
    refine wpAnyH_done (by kernel_rfl) ?_ _
    have BV := Lib.hid ((R0.out).trans (BL0.out.mono (R0.out).size))
    go_wp2
    refine bodyPost_ret (results_row_err rfl _ _ _ _ _ (0, 0) _ rfl (setRow_heap _ _ _ _ _ _ (KR.out _ BV.out)) Tryd.underlying30 rfl (by kernel_rfl) _ rfl) rfl ?_
    rw [HB.out]
    exact ta_err (KR.out _ BV.out) (by omega) (FIN.out _ BV.out) (by decide) rfl
  subst ho
  rcases n with _ | n
  · have HC : Hid (ps6 o xs o = (0, false, -1, -1, [], [])) := by show _ = _; rw [HA.out, if_neg (by simp), if_pos EX.out]
    go_upto_region 6 with (fail)
    have RB := KR.out w1 R0.out
    have r0 := cell_of_row w1 _ 0 _ _ _ RB; have f0 := frozen_of_row w1 _ 0 _ _ RB
    have r1 := cell_of_row w1 _ 1 _ _ _ RB; have f1 := frozen_of_row w1 _ 1 _ _ RB
    have r2 := cell_of_row w1 _ 2 _ _ _ RB; have f2 := frozen_of_row w1 _ 2 _ _ RB
    have r3 := cell_of_row w1 _ 3 _ _ _ RB; have f3 := frozen_of_row w1 _ 3 _ _ RB
    have r4 := cell_of_row w1 _ 4 _ _ _ RB; have f4 := frozen_of_row w1 _ 4 _ _ RB
    have r5 := cell_of_row w1 _ 5 _ _ _ RB; have f5 := frozen_of_row w1 _ 5 _ _ RB
    simp at r0 r1 r2 r3 r4 r5
    have HRB := Lib.hid RB
    clear RB
    go_wp2
    refine bodyPost_ret (results_row_err rfl _ _ _ _ _ (0, 0) _ rfl (set6_block HRB.out _ _ _ _ _ _) Tryd.underlying30 rfl (by kernel_rfl) _ rfl) rfl ?_
    rw [HC.out]
    exact ta_box HRB.out (by omega) (FIN.out _ R0.out) (0, false, -1, -1, [], []) rfl (OR.void _ _) (OR.void _ _) (Apart.none_left _)
  have HC : Hid (ps6 o xs o = (0, false, gi xs 0, gi xs 0, xs.drop 1, [])) := by show _ = _; rw [HA.out, if_neg (by simp), if_neg (by rw [EX.out]; omega)]
  obtain ⟨b, off, rfl, h1, h2, hc⟩ := (HL.out.below (FIN.out w1 R0.out) (by omega)).at_ (show 0 < n + 1 by omega)
  have hck := hc 0 (by omega)
  simp only [Nat.add_zero] at hck
  have htl := run_tail b off (n + 1) c (by omega)
  rw [show (n + 1 : Nat) - 1 = n from rfl] at htl
  have NN : Hid ((xs.drop 1).length = n) := by show _ = _; simp [EX.out]
  have CT : Hid (∀ W, Below w1.heap.size w1 W → Calls Tryd.prog 57 #[.slice (some (nextA b off c)) n (c - 1)] W fun e w' => ∃ A' c', e = .returned (.slice A' n c') ∧ OR 2 1 w' w1.heap.size A' n c' (xs.drop 1) ∧ Below w1.heap.size w1 w') := fun W hW =>
    (clone6_any lo (min hi w.heap.size) (some (nextA b off c)) n (c - 1) (xs.drop 1) W (by omega) NN.out (by simp) (sl_tail (n := n + 1) EX.out NC.out (HL.out.below (FIN.out W hW) (by omega)))).mono fun e w' ⟨A', c', h1, h2, h3⟩ => ⟨A', c', h1, OR.mono h2 hW.size, hW.trans (h3.mono hW.size)⟩
  clear hc h1 h2
  go_upto_region 8 with (fail)
  go_wp2_with
    (go_at_call 57
     refine (CT.out _ R0.out).mono ?_
     rintro e9 w2 ⟨A', c', rfl, ho, hb⟩
     have OW := Lib.hid ho
     have BL1 := Lib.hid hb
     clear ho hb
     have RB := KR.out w2 BL1.out; have r0 := cell_of_row w2 _ 0 _ _ _ RB; have f0 := frozen_of_row w2 _ 0 _ _ RB; have r1 := cell_of_row w2 _ 1 _ _ _ RB; have f1 := frozen_of_row w2 _ 1 _ _ RB; have r2 := cell_of_row w2 _ 2 _ _ _ RB; have f2 := frozen_of_row w2 _ 2 _ _ RB; have r3 := cell_of_row w2 _ 3 _ _ _ RB; have f3 := frozen_of_row w2 _ 3 _ _ RB; have r4 := cell_of_row w2 _ 4 _ _ _ RB; have f4 := frozen_of_row w2 _ 4 _ _ RB; have r5 := cell_of_row w2 _ 5 _ _ _ RB; have f5 := frozen_of_row w2 _ 5 _ _ RB; simp at r0 r1 r2 r3 r4 r5; have HRB := Lib.hid RB; clear RB)
  have O1 := Lib.hid (OR.mono (base' := w.heap.size) OW.out (by have := Z1.out; omega))
  have EN := NN.out
  rw [← EN] at O1 ⊢
  refine bodyPost_ret (results_row_err rfl _ _ _ _ _ (0, 0) _ rfl (set6_block HRB.out _ _ _ _ _ _) Tryd.underlying30 rfl (by kernel_rfl) _ rfl) rfl ?_
  rw [HC.out]
  exact ta_box HRB.out (by omega) (FIN.out _ BL1.out) (0, false, gi xs 0, gi xs 0, xs.drop 1, []) rfl O1.out (OR.void _ _) (Apart.none_right _)

set_option maxHeartbeats 4000000 in
theorem wait_any (E : E6) (lo hi : Nat) (A : Option Addr) (n c : Nat) (xs : List Int) (id : Int) (w : World) (hE : Errs E w) (hn : n ≤ 1048576) (hnc : n ≤ c) (ex : xs.length = n) (hA : A = none → c = 0) (h : Sl w lo hi A n (fun k => .int .i64 (gi xs k))) :
    Calls Tryd.prog 51 #[.slice A n c, .int .i64 id] w (TA E (wt6 xs id) w) := by
  obtain ⟨w1, hw1⟩ : ∃ w1, w1 = w.alloc (.cells #[.int .i64 0, .bool false, .int .i64 0, .int .i64 0, .slice none 0 0, .slice none 0 0] 30) := ⟨_, rfl⟩
  have K2 : Hid (w1.heap[w.heap.size]? = some (.cells #[.int .i64 0, .bool false, .int .i64 0, .int .i64 0, .slice none 0 0, .slice none 0 0] 30 (0, 0))) := by show _ = _; rw [hw1]; exact heap_alloc_new w _
  have B1 : Hid (Below w.heap.size w w1) := by rw [hw1]; exact below_new w _
  have Z1 : Hid (w1.heap.size = w.heap.size + 1) := by show _ = _; rw [hw1]; simp
  have KR : Hid (∀ W, Below w1.heap.size w1 W → W.heap[w.heap.size]? = some (.cells #[.int .i64 0, .bool false, .int .i64 0, .int .i64 0, .slice none 0 0, .slice none 0 0] 30 (0, 0))) := fun W hW => (hW.block w.heap.size (by have := Z1.out; omega)).trans K2.out
  have FIN : Hid (∀ W, Below w1.heap.size w1 W → Below w.heap.size w W) := fun W hW => B1.out.trans (hW.mono (by have := Z1.out; omega))
  have GE : Hid (∀ W, Below w1.heap.size w1 W → Errs E W) := fun W hW => hE.below (FIN.out W hW)
  have GL := Lib.hid (show 0 < w.heap.size ∧ 2 < w.heap.size from ⟨World.block_lt_of_cell? _ _ hE.range.1, World.block_lt_of_cell? _ _ hE.taken.1⟩)
  have HL := Lib.hid h.lt
  have EX := Lib.hid ex
  have IT := Lib.hid (isThread6_any id)
  have HS : Hid (∀ W, Below w1.heap.size w1 W → Calls Tryd.prog 55 #[.slice A n c, .int .i64 id] W fun e w' => e = .returned (.bool (decide (id ∈ xs))) ∧ W = w') := fun W hW =>
    contains6_any lo (min hi w.heap.size) A n c xs id W (by omega) ex (HL.out.below (FIN.out W hW) (by omega))
  have BH : Hid (∀ W, Below w1.heap.size w1 W → Calls Tryd.prog 56 #[.slice A n c, .int .i64 id] W fun e w' => ∃ A' c', e = .returned (.slice A' (n + 1) c') ∧ OR 2 1 w' w1.heap.size A' (n + 1) c' (xs ++ [id]) ∧ Below w1.heap.size w1 w') := fun W hW =>
    (behind6_any lo (min hi w.heap.size) A n c xs id W hn EX.out hA (HL.out.below (FIN.out W hW) (by omega))).mono fun e w' ⟨A', c', h1, h2, h3⟩ => ⟨A', c', h1, OR.mono h2 hW.size, hW.trans (h3.mono hW.size)⟩
  have R0 : Hid (Below w1.heap.size w1 w1) := Below.refl _ _
  have HW1 := Lib.hid hw1
  clear hw1 hnc ex hA h hE
  go_enter Tryd.func51, Tryd.ntmps51
  go_upto_region 1 with (fail)
  rw [← HW1.out]
  clear HW1
  go_wp2_with fail
  refine (IT.out _).mono ?_
  rintro e9 w9 ⟨rfl, rfl⟩
  rcases hi : id6 id with _ | _
  · have HB : Hid (wt6 xs id = z6 3) := by show _ = _; unfold wt6; rw [if_pos hi]
    clear hi
    go_upto_region 2 with (fail)
    have gE := (GE.out w1 R0.out).range.1
    refine wp_region_held_drew (S := fun W => W.cell? ⟨0, 0, none⟩ = some (.iface 92 (.pointer (some E.range)))) (by kernel_rfl) (((GE.out _ (R0.out).drew).range.1)) (fun hHeld => ?_)
    obtain ⟨v0, hv0⟩ : ∃ v0, v0 = w1.drew := ⟨_, rfl⟩
    have BL0 : Hid (Below w1.heap.size w1 v0) := by rw [hv0]; exact Below.drew (Below.refl _ _)
    rw [← hv0] at hHeld ⊢
    clear hv0
    refine wpAnyH_take (i := 0) (oi := _) (v := ?_) rfl (by kernel_rfl) (by kernel_rfl) (by kernel_rfl) (fun _ _ _ h => h) (Or.inl ⟨by rfl, ?_⟩) hHeld ?_
    rotate_left
    · (intro w hSw; (try dsimp only at hSw); go_simp; try with_reducible rfl)
    try simp only [Act.put, List.getElem_toArray, List.getElem_cons_succ, List.getElem_cons_zero, List.setIfInBounds_toArray, List.set_cons_zero, List.set_cons_succ]
    refine wpAnyH_take (i := 1) (oi := _) (v := ?_) rfl (by kernel_rfl) (by kernel_rfl) (by kernel_rfl) (fun _ _ _ h => h) (Or.inl ⟨by rfl, ?_⟩) hHeld ?_
    rotate_left
    · (intro w hSw; (try dsimp only at hSw); go_simp; try with_reducible rfl)
    try simp only [Act.put, List.getElem_toArray, List.getElem_cons_succ, List.getElem_cons_zero, List.setIfInBounds_toArray, List.set_cons_zero, List.set_cons_succ]
    refine wpAnyH_ready (rs := [2]) (by kernel_rfl) (by simp) ?_
    refine AllReadyH.cons (o := _) rfl (fun K0 hK0 => ?_) AllReadyH.nil
    clear hHeld
    rw [if_pos (by rfl)]
    refine wp_store_row 30 _ _ rfl (w.heap.size) _ rfl rfl 30 _ (KR.out _ ((R0.out).trans (BL0.out.mono (R0.out).size))) (by kernel_rfl) rfl (by simp [Value.oneCell']) ?_
    refine hK0.out _ _ ((cell_setRow_other _ _ _ _ (by have := GL.out; first | (simp; done) | (simp; omega))).trans (GE.out _ ((R0.out).trans (BL0.out.mono (R0.out).size))).range.1) (fun hHeld => ?_)
    clear hK0 K0
    try simp only [Act.put, List.getElem_toArray, List.getElem_cons_succ, List.getElem_cons_zero, List.setIfInBounds_toArray, List.set_cons_zero, List.set_cons_succ]
    refine wpAnyH_take (i := 3) (oi := _) (v := ?_) rfl (by kernel_rfl) (by kernel_rfl) (by kernel_rfl) (fun _ _ _ h => h) (Or.inl ⟨by rfl, ?_⟩) hHeld ?_
    rotate_left
    · (intro w hSw; (try dsimp only at hSw); go_simp; try with_reducible rfl)
    try simp only [Act.put, List.getElem_toArray, List.getElem_cons_succ, List.getElem_cons_zero, List.setIfInBounds_toArray, List.set_cons_zero, List.set_cons_succ]
    refine wpAnyH_done (by kernel_rfl) ?_ _
    have BV := Lib.hid ((R0.out).trans (BL0.out.mono (R0.out).size))
    go_wp2
    refine bodyPost_ret (results_row_err rfl _ _ _ _ _ (0, 0) _ rfl (setRow_heap _ _ _ _ _ _ (KR.out _ BV.out)) Tryd.underlying30 rfl (by kernel_rfl) _ rfl) rfl ?_
    rw [HB.out]
    exact ta_err (KR.out _ BV.out) (Nat.le_refl _) (FIN.out _ BV.out) (by decide) rfl
  have HI := Lib.hid hi
  clear hi
  by_cases hm : id ∈ xs
  · have HB : Hid (wt6 xs id = z6 6) := by show _ = _; unfold wt6; rw [if_neg (by rw [HI.out]; simp), if_pos hm]
    have hd : decide (id ∈ xs) = true := by simpa using hm
    rw [hd] at HS
    clear hd hm
    go_upto_region 4 with (go_at_call 55; refine (HS.out _ R0.out).mono ?_; rintro e9 w9 ⟨rfl, rfl⟩)
    have gE := (GE.out w1 R0.out).taken.1
    refine wp_region_held_drew (S := fun W => W.cell? ⟨2, 0, none⟩ = some (.iface 92 (.pointer (some E.taken)))) (by kernel_rfl) (((GE.out _ (R0.out).drew).taken.1)) (fun hHeld => ?_)
    obtain ⟨v0, hv0⟩ : ∃ v0, v0 = w1.drew := ⟨_, rfl⟩
    have BL0 : Hid (Below w1.heap.size w1 v0) := by rw [hv0]; exact Below.drew (Below.refl _ _)
    rw [← hv0] at hHeld ⊢
    clear hv0
    refine wpAnyH_take (i := 0) (oi := _) (v := ?_) rfl (by kernel_rfl) (by kernel_rfl) (by kernel_rfl) (fun _ _ _ h => h) (Or.inl ⟨by rfl, ?_⟩) hHeld ?_
    rotate_left
    · (intro w hSw; (try dsimp only at hSw); go_simp; try with_reducible rfl)
    try simp only [Act.put, List.getElem_toArray, List.getElem_cons_succ, List.getElem_cons_zero, List.setIfInBounds_toArray, List.set_cons_zero, List.set_cons_succ]
    refine wpAnyH_take (i := 1) (oi := _) (v := ?_) rfl (by kernel_rfl) (by kernel_rfl) (by kernel_rfl) (fun _ _ _ h => h) (Or.inl ⟨by rfl, ?_⟩) hHeld ?_
    rotate_left
    · (intro w hSw; (try dsimp only at hSw); go_simp; try with_reducible rfl)
    try simp only [Act.put, List.getElem_toArray, List.getElem_cons_succ, List.getElem_cons_zero, List.setIfInBounds_toArray, List.set_cons_zero, List.set_cons_succ]
    refine wpAnyH_ready (rs := [2]) (by kernel_rfl) (by simp) ?_
    refine AllReadyH.cons (o := _) rfl (fun K0 hK0 => ?_) AllReadyH.nil
    clear hHeld
    rw [if_pos (by rfl)]
    refine wp_store_row 30 _ _ rfl (w.heap.size) _ rfl rfl 30 _ (KR.out _ ((R0.out).trans (BL0.out.mono (R0.out).size))) (by kernel_rfl) rfl (by simp [Value.oneCell']) ?_
    refine hK0.out _ _ ((cell_setRow_other _ _ _ _ (by have := GL.out; first | (simp; done) | (simp; omega))).trans (GE.out _ ((R0.out).trans (BL0.out.mono (R0.out).size))).taken.1) (fun hHeld => ?_)
    clear hK0 K0
    try simp only [Act.put, List.getElem_toArray, List.getElem_cons_succ, List.getElem_cons_zero, List.setIfInBounds_toArray, List.set_cons_zero, List.set_cons_succ]
    refine wpAnyH_take (i := 3) (oi := _) (v := ?_) rfl (by kernel_rfl) (by kernel_rfl) (by kernel_rfl) (fun _ _ _ h => h) (Or.inl ⟨by rfl, ?_⟩) hHeld ?_
    rotate_left
    · (intro w hSw; (try dsimp only at hSw); go_simp; try with_reducible rfl)
    try simp only [Act.put, List.getElem_toArray, List.getElem_cons_succ, List.getElem_cons_zero, List.setIfInBounds_toArray, List.set_cons_zero, List.set_cons_succ]
    refine wpAnyH_done (by kernel_rfl) ?_ _
    have BV := Lib.hid ((R0.out).trans (BL0.out.mono (R0.out).size))
    go_wp2
    refine bodyPost_ret (results_row_err rfl _ _ _ _ _ (0, 0) _ rfl (setRow_heap _ _ _ _ _ _ (KR.out _ BV.out)) Tryd.underlying30 rfl (by kernel_rfl) _ rfl) rfl ?_
    rw [HB.out]
    exact ta_err (KR.out _ BV.out) (Nat.le_refl _) (FIN.out _ BV.out) (by decide) rfl
  have HC : Hid (wt6 xs id = (0, false, -1, 0, [], xs ++ [id])) := by show _ = _; unfold wt6; rw [if_neg (by rw [HI.out]; simp), if_neg hm]
  have hd : decide (id ∈ xs) = false := by simpa using hm
  rw [hd] at HS
  clear hd hm
  go_wp2_with (first
    | (go_at_call 55; refine (HS.out _ R0.out).mono ?_; rintro e9 w9 ⟨rfl, rfl⟩)
    | (go_at_call 56
       refine (BH.out _ R0.out).mono ?_
       rintro e9 w2 ⟨A', c', rfl, ho, hb⟩
       have OW := Lib.hid ho
       have BL1 := Lib.hid hb
       clear ho hb
       have RB := KR.out w2 BL1.out; have r0 := cell_of_row w2 _ 0 _ _ _ RB; have f0 := frozen_of_row w2 _ 0 _ _ RB; have r1 := cell_of_row w2 _ 1 _ _ _ RB; have f1 := frozen_of_row w2 _ 1 _ _ RB; have r2 := cell_of_row w2 _ 2 _ _ _ RB; have f2 := frozen_of_row w2 _ 2 _ _ RB; have r3 := cell_of_row w2 _ 3 _ _ _ RB; have f3 := frozen_of_row w2 _ 3 _ _ RB; have r4 := cell_of_row w2 _ 4 _ _ _ RB; have f4 := frozen_of_row w2 _ 4 _ _ RB; have r5 := cell_of_row w2 _ 5 _ _ _ RB; have f5 := frozen_of_row w2 _ 5 _ _ RB; simp at r0 r1 r2 r3 r4 r5; have HRB := Lib.hid RB; clear RB))
  have O1 := Lib.hid (OR.mono (base' := w.heap.size) OW.out (by have := Z1.out; omega))
  have EL : Hid (n + 1 = (xs ++ [id]).length) := by show _ = _; simp [EX.out]
  have EN := EL.out
  rw [EN] at O1 ⊢
  refine bodyPost_ret (results_row_err rfl _ _ _ _ _ (0, 0) _ rfl (set6_block HRB.out _ _ _ _ _ _) Tryd.underlying30 rfl (by kernel_rfl) _ rfl) rfl ?_
  rw [HC.out]
  exact ta_box HRB.out (Nat.le_refl _) (FIN.out _ BL1.out) (0, false, -1, 0, [], xs ++ [id]) rfl (OR.void _ _) O1.out (Apart.none_left _)

end Go.Proofs.YtachpoehejdpjaaDoor
