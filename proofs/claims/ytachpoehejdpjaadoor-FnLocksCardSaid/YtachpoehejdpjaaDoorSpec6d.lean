/-
  The model's WaitQueue and PassLock. No conditions beyond that the lists can be read.
-/
import Derived.Test.YtachpoehejdpjaaDoorSpec6b
import Derived.Test.YtachpoehejdpjaaDoorSpec6c
namespace Go.Proofs.YtachpoehejdpjaaDoor
open Go.RowKit
set_option maxRecDepth 100000

set_option maxHeartbeats 2000000 in
theorem specWaitQueue_any (lo hi : Nat) (A : Option Addr) (n c : Nat) (xs : List Int) (id : Int) (w : World) (hn : n ≤ 1048576) (hnc : n ≤ c) (ex : xs.length = n) (hA : A = none → c = 0) (h : Sl w lo hi A n (fun k => .int .i64 (gi xs k))) :
    Calls Tryd.prog 24 #[.slice A n c, .int .i64 id] w (LA (wait6 xs id) w) := by
  obtain ⟨i0, hi0, hz0, hz1, hz2⟩ := info_parts Tryd.info_i64
  obtain ⟨w1, hw1⟩ : ∃ w1, w1 = w.alloc (.cells #[.int .i64 0, .bool false, .int .i64 0, .int .i64 0, .slice none 0 0, .slice none 0 0] 30) := ⟨_, rfl⟩
  have k1 : w1.heap[w.heap.size]? = some (.cells #[.int .i64 0, .bool false, .int .i64 0, .int .i64 0, .slice none 0 0, .slice none 0 0] 30 (0, 0)) := by rw [hw1]; exact heap_alloc_new w _
  have B1 : Hid (Below w.heap.size w w1) := by rw [hw1]; exact below_new w _
  have Z1 : Hid (w1.heap.size = w.heap.size + 1) := by show _ = _; rw [hw1]; simp
  have KR : Hid (∀ W, Below w1.heap.size w1 W → W.heap[w.heap.size]? = some (.cells #[.int .i64 0, .bool false, .int .i64 0, .int .i64 0, .slice none 0 0, .slice none 0 0] 30 (0, 0))) := fun W hW => (hW.block w.heap.size (by have := Z1.out; omega)).trans k1
  have FIN : Hid (∀ W, Below w1.heap.size w1 W → Below w.heap.size w W) := fun W hW => B1.out.trans (hW.mono (by have := Z1.out; omega))
  have HL := Lib.hid h.lt
  have EX := Lib.hid ex
  have QF := Lib.hid (specQueueFault_any lo (min hi w.heap.size) A n c xs w1 (by omega) hnc ex (HL.out.below B1.out (by omega)))
  have ID := Lib.hid (l5Id_any id)
  have HS : Hid (∀ W, Below w1.heap.size w1 W → Calls Tryd.prog 39 #[.slice A n c, .int .i64 id] W fun e w' => e = .returned (.bool (decide (id ∈ xs))) ∧ W = w') := fun W hW =>
    l1Has_any lo (min hi w.heap.size) A n c xs id W (by omega) ex (HL.out.below (FIN.out W hW) (by omega))
  have CP : Hid (∀ W, Below w1.heap.size w1 W → Calls Tryd.prog 41 #[.slice A n c] W fun e w' => ∃ A' c', e = .returned (.slice A' n c') ∧ OR 2 1 w' w1.heap.size A' n c' xs ∧ Below w1.heap.size w1 w') := fun W hW =>
    (l1IntsO_any lo (min hi w.heap.size) A n c xs W hn ex hA (HL.out.below (FIN.out W hW) (by omega))).mono fun e w' ⟨A', c', h1, h2, h3⟩ => ⟨A', c', h1, OR.mono h2 hW.size, hW.trans (h3.mono hW.size)⟩
  have HW1 := Lib.hid hw1
  clear hw1 hnc ex hA h k1
  go_enter Tryd.func24, Tryd.ntmps24
  go_upto_region 1 with (fail)
  rw [← HW1.out]
  clear HW1
  go_wp2_with fail
  refine QF.out.mono ?_
  rintro e9 w2 ⟨rfl, hb⟩
  have B2 := Lib.hid hb
  clear hb QF
  obtain ⟨q, hq⟩ : ∃ q, q = qf6 xs := ⟨_, rfl⟩
  rw [← hq]
  by_cases hz : q = 0
  rotate_left
  · have hz' : (q != 0) = true := by simp [hz]
    have HA : Hid (wait6 xs id = z6 q) := by show _ = _; unfold wait6; rw [if_pos (by rw [← hq]; exact hz), hq]
    clear hq hz
    have RB := KR.out w2 B2.out
    have r0 := cell_of_row w2 _ 0 _ _ _ RB; have f0 := frozen_of_row w2 _ 0 _ _ RB
    have r1 := cell_of_row w2 _ 1 _ _ _ RB; have f1 := frozen_of_row w2 _ 1 _ _ RB
    have r2 := cell_of_row w2 _ 2 _ _ _ RB; have f2 := frozen_of_row w2 _ 2 _ _ RB
    have r3 := cell_of_row w2 _ 3 _ _ _ RB; have f3 := frozen_of_row w2 _ 3 _ _ RB
    have r4 := cell_of_row w2 _ 4 _ _ _ RB; have f4 := frozen_of_row w2 _ 4 _ _ RB
    have r5 := cell_of_row w2 _ 5 _ _ _ RB; have f5 := frozen_of_row w2 _ 5 _ _ RB
    simp at r0 r1 r2 r3 r4 r5
    have HRB := Lib.hid RB
    clear RB
    go_wp2
    refine bodyPost_ret (results_cell_row rfl _ _ _ _ _ (0, 0) _ rfl (set6_block HRB.out _ _ _ _ _ _) Tryd.underlying30 rfl (by kernel_rfl)) rfl ?_
    rw [HA.out]
    exact la_box HRB.out (by omega) (FIN.out _ B2.out) (z6 (q)) (OR.void _ _) (OR.void _ _) (Apart.none_left _)
  have HA : Hid (wait6 xs id = wt6 xs id) := by show _ = _; unfold wait6; rw [if_neg (by rw [← hq]; simp [hz])]
  subst hz
  clear hq
  rcases hi : id6 id with _ | _
  · have HB : Hid (wait6 xs id = z6 3) := by show _ = _; rw [HA.out]; unfold wt6; rw [if_pos hi]
    rw [hi] at ID
    have RB := KR.out w2 B2.out
    have r0 := cell_of_row w2 _ 0 _ _ _ RB; have f0 := frozen_of_row w2 _ 0 _ _ RB
    have r1 := cell_of_row w2 _ 1 _ _ _ RB; have f1 := frozen_of_row w2 _ 1 _ _ RB
    have r2 := cell_of_row w2 _ 2 _ _ _ RB; have f2 := frozen_of_row w2 _ 2 _ _ RB
    have r3 := cell_of_row w2 _ 3 _ _ _ RB; have f3 := frozen_of_row w2 _ 3 _ _ RB
    have r4 := cell_of_row w2 _ 4 _ _ _ RB; have f4 := frozen_of_row w2 _ 4 _ _ RB
    have r5 := cell_of_row w2 _ 5 _ _ _ RB; have f5 := frozen_of_row w2 _ 5 _ _ RB
    simp at r0 r1 r2 r3 r4 r5
    have HRB := Lib.hid RB
    clear RB
    go_wp2_with (go_at_call 44; refine (ID.out _).mono ?_; rintro e9 w9 ⟨rfl, rfl⟩)
    refine bodyPost_ret (results_cell_row rfl _ _ _ _ _ (0, 0) _ rfl (set6_block HRB.out _ _ _ _ _ _) Tryd.underlying30 rfl (by kernel_rfl)) rfl ?_
    rw [HB.out]
    exact la_box HRB.out (by omega) (FIN.out _ B2.out) (z6 (3)) (OR.void _ _) (OR.void _ _) (Apart.none_left _)
  rw [hi] at ID
  by_cases hm : id ∈ xs
  · have HB : Hid (wait6 xs id = z6 6) := by show _ = _; rw [HA.out]; unfold wt6; rw [if_neg (by simp [hi]), if_pos hm]
    have hd : decide (id ∈ xs) = true := by simpa using hm
    rw [hd] at HS
    clear hd hm
    have RB := KR.out w2 B2.out
    have r0 := cell_of_row w2 _ 0 _ _ _ RB; have f0 := frozen_of_row w2 _ 0 _ _ RB
    have r1 := cell_of_row w2 _ 1 _ _ _ RB; have f1 := frozen_of_row w2 _ 1 _ _ RB
    have r2 := cell_of_row w2 _ 2 _ _ _ RB; have f2 := frozen_of_row w2 _ 2 _ _ RB
    have r3 := cell_of_row w2 _ 3 _ _ _ RB; have f3 := frozen_of_row w2 _ 3 _ _ RB
    have r4 := cell_of_row w2 _ 4 _ _ _ RB; have f4 := frozen_of_row w2 _ 4 _ _ RB
    have r5 := cell_of_row w2 _ 5 _ _ _ RB; have f5 := frozen_of_row w2 _ 5 _ _ RB
    simp at r0 r1 r2 r3 r4 r5
    have HRB := Lib.hid RB
    clear RB
    go_wp2_with (first | (go_at_call 44; refine (ID.out _).mono ?_; rintro e9 w9 ⟨rfl, rfl⟩) | (go_at_call 39; refine (HS.out _ B2.out).mono ?_; rintro e9 w9 ⟨rfl, rfl⟩))
    refine bodyPost_ret (results_cell_row rfl _ _ _ _ _ (0, 0) _ rfl (set6_block HRB.out _ _ _ _ _ _) Tryd.underlying30 rfl (by kernel_rfl)) rfl ?_
    rw [HB.out]
    exact la_box HRB.out (by omega) (FIN.out _ B2.out) (z6 (6)) (OR.void _ _) (OR.void _ _) (Apart.none_left _)
  have HB : Hid (wait6 xs id = (0, false, -1, 0, [], xs ++ [id])) := by show _ = _; rw [HA.out]; unfold wt6; rw [if_neg (by simp [hi]), if_neg hm]
  have hd : decide (id ∈ xs) = false := by simpa using hm
  rw [hd] at HS
  clear hd hm
  go_wp2_with (first
    | (go_at_call 44; refine (ID.out _).mono ?_; rintro e9 w9 ⟨rfl, rfl⟩)
    | (go_at_call 39; refine (HS.out _ B2.out).mono ?_; rintro e9 w9 ⟨rfl, rfl⟩)
    | (go_at_call 41; refine (CP.out _ B2.out).mono ?_; rintro e9 w3 ⟨A', c', rfl, ho, hb⟩
       have HO2 := Lib.hid (OR.alloc ho (.cells #[.int .i64 id] 2))
       have HB2 := Lib.hid (hb.alloc hb.size (.cells #[.int .i64 id] 2))
       have NW := Lib.hid (one_new6 w3 id)
       clear ho hb)
    | (at_builtin
       refine wpList_append_own _ rfl (.tmp 21) (.tmp 23) 24 rfl w1.heap.size 2 i0 (.int .i64 0) 1 8 Tryd.underlying24 hi0 hz0 hz1 hz2 rfl (by decide) ((.slice A' n c')) n (vals xs) rfl HO2.out ⟨w3.heap.size, 0, none⟩ 1 1 [.int .i64 id] rfl rfl NW.out (by simp [Value.oneCell']) (by unfold maxLen; omega) (by omega) HB2.out.size ?_
       intro v' w4 hown hgrow _
       have HO3 := Lib.hid (row_more6 hown)
       have HB3 := Lib.hid (HB2.out.trans (OR.grew6 HO2.out HB2.out.size hgrow))
       clear hown hgrow
       obtain ⟨A3, c3, rfl, ho3⟩ := HO3.out
       have O3 := Lib.hid ho3
       clear ho3 HO3
       have RB := KR.out w4 HB3.out; have r0 := cell_of_row w4 _ 0 _ _ _ RB; have f0 := frozen_of_row w4 _ 0 _ _ RB; have r1 := cell_of_row w4 _ 1 _ _ _ RB; have f1 := frozen_of_row w4 _ 1 _ _ RB; have r2 := cell_of_row w4 _ 2 _ _ _ RB; have f2 := frozen_of_row w4 _ 2 _ _ RB; have r3 := cell_of_row w4 _ 3 _ _ _ RB; have f3 := frozen_of_row w4 _ 3 _ _ RB; have r4 := cell_of_row w4 _ 4 _ _ _ RB; have f4 := frozen_of_row w4 _ 4 _ _ RB; have r5 := cell_of_row w4 _ 5 _ _ _ RB; have f5 := frozen_of_row w4 _ 5 _ _ RB; simp at r0 r1 r2 r3 r4 r5; have HRB := Lib.hid RB; clear RB))
  have EL : Hid (n + 1 = (xs ++ [id]).length) := by show _ = _; simp [EX.out]
  have EN := EL.out
  rw [EN] at O3 ⊢
  refine bodyPost_ret (results_cell_row rfl _ _ _ _ _ (0, 0) _ rfl (set6_block HRB.out _ _ _ _ _ _) Tryd.underlying30 rfl (by kernel_rfl)) rfl ?_
  rw [HB.out]
  exact la_box HRB.out (by omega) (FIN.out _ HB3.out) ((0, false, -1, 0, [], xs ++ [id])) (OR.void _ _) (OR.mono O3.out (by have := Z1.out; omega)) (Apart.none_left _)

set_option maxHeartbeats 4000000 in
theorem specPassLock_any (lo hi : Nat) (A : Option Addr) (n c : Nat) (o : Int) (xs : List Int) (id : Int) (w : World) (hn : n ≤ 1048576) (hnc : n ≤ c) (ex : xs.length = n) (hA : A = none → c = 0) (h : Sl w lo hi A n (fun k => .int .i64 (gi xs k))) :
    Calls Tryd.prog 13 #[.agg #[.int .i64 o, .slice A n c], .int .i64 id] w (LA (pass6 o xs id) w) := by
  obtain ⟨i0, hi0, hz0, hz1, hz2⟩ := info_parts Tryd.info_i64
  obtain ⟨w1, hw1⟩ : ∃ w1, w1 = (w.alloc (.cells #[.int .i64 o, .slice A n c] 26)).alloc (.cells #[.int .i64 0, .bool false, .int .i64 0, .int .i64 0, .slice none 0 0, .slice none 0 0] 30) := ⟨_, rfl⟩
  have K1 : Hid (w1.heap[w.heap.size]? = some (.cells #[.int .i64 o, .slice A n c] 26 (0, 0))) := by show _ = _; rw [hw1]; exact heap_alloc2_old w _ _
  have K2 : Hid (w1.heap[w.heap.size + 1]? = some (.cells #[.int .i64 0, .bool false, .int .i64 0, .int .i64 0, .slice none 0 0, .slice none 0 0] 30 (0, 0))) := by show _ = _; rw [hw1]; exact heap_alloc2_new w _ _
  have B1 : Hid (Below w.heap.size w w1) := by rw [hw1]; exact (below_new w _).alloc (by simp) _
  have Z1 : Hid (w1.heap.size = w.heap.size + 2) := by show _ = _; rw [hw1]; simp
  have KB : Hid (∀ W, Below w1.heap.size w1 W → W.heap[w.heap.size]? = some (.cells #[.int .i64 o, .slice A n c] 26 (0, 0))) := fun W hW => (hW.block w.heap.size (by have := Z1.out; omega)).trans K1.out
  have KS : Hid (∀ W, Below w1.heap.size w1 W → W.cell? ⟨w.heap.size, 0, none⟩ = some (.int .i64 o) ∧ W.cell? ⟨w.heap.size, 1, none⟩ = some (.slice A n c)) := fun W hW => by
    have j := KB.out W hW
    exact ⟨cell_of_row W _ 0 _ _ _ j, cell_of_row W _ 1 _ _ _ j⟩
  have KR : Hid (∀ W, Below w1.heap.size w1 W → W.heap[w.heap.size + 1]? = some (.cells #[.int .i64 0, .bool false, .int .i64 0, .int .i64 0, .slice none 0 0, .slice none 0 0] 30 (0, 0))) := fun W hW => (hW.block (w.heap.size + 1) (by have := Z1.out; omega)).trans K2.out
  have FIN : Hid (∀ W, Below w1.heap.size w1 W → Below w.heap.size w W) := fun W hW => B1.out.trans (hW.mono (by have := Z1.out; omega))
  have HL := Lib.hid h.lt
  have EX := Lib.hid ex
  have NC := Lib.hid hnc
  have AK := Lib.hid (l6Asked_any lo (min hi w.heap.size) A n c w.heap.size o id xs w1 (by omega) hnc ex (HL.out.below B1.out (by omega)) K1.out)
  have HS : Hid (∀ W, Below w1.heap.size w1 W → Calls Tryd.prog 39 #[.slice A n c, .int .i64 id] W fun e w' => e = .returned (.bool (decide (id ∈ xs))) ∧ W = w') := fun W hW =>
    l1Has_any lo (min hi w.heap.size) A n c xs id W (by omega) ex (HL.out.below (FIN.out W hW) (by omega))
  have CP : Hid (∀ W, Below w1.heap.size w1 W → Calls Tryd.prog 37 #[.pointer (some ⟨w.heap.size, 0, none⟩)] W fun e w' => ∃ A' c', e = .returned (.agg #[.int .i64 o, .slice A' n c']) ∧ OR 2 1 w' w1.heap.size A' n c' xs ∧ Below w1.heap.size w1 w') := fun W hW =>
    (l6Copy_any lo (min hi w.heap.size) A n c w.heap.size o xs W hn ex hA (HL.out.below (FIN.out W hW) (by omega)) (KB.out W hW)).mono fun e w' ⟨A', c', h1, h2, h3⟩ => ⟨A', c', h1, OR.mono h2 hW.size, hW.trans (h3.mono hW.size)⟩
  have HAN := Lib.hid hA
  have HW1 := Lib.hid hw1
  clear hw1 hnc ex hA h
  go_enter Tryd.func13, Tryd.ntmps13
  go_upto_region 1 with (fail)
  rw [← HW1.out]
  clear HW1
  go_wp2_with fail
  refine AK.out.mono ?_
  rintro e9 w2 ⟨rfl, hb⟩
  have B2 := Lib.hid hb
  clear hb AK
  obtain ⟨q, hq⟩ : ∃ q, q = (if lf6 o xs ≠ 0 then lf6 o xs else if id6 id = false then 3 else 0) := ⟨_, rfl⟩
  rw [← hq]
  by_cases hz : q = 0
  rotate_left
  · have hz' : (q != 0) = true := by simp [hz]
    have HA : Hid (pass6 o xs id = z6 q) := by
      show _ = _
      unfold pass6
      by_cases hl : lf6 o xs ≠ 0
      · rw [if_pos hl] at hq
        rw [if_pos hl, hq]
      · rw [if_neg hl] at hq
        rw [if_neg hl]
        by_cases hi : id6 id = false
        · rw [if_pos hi] at hq
          unfold ps6
          rw [if_pos hi, hq]
        · rw [if_neg hi] at hq
          exact absurd hq hz
    clear hq hz
    have RB := KR.out w2 B2.out
    have r0 := cell_of_row w2 _ 0 _ _ _ RB; have f0 := frozen_of_row w2 _ 0 _ _ RB
    have r1 := cell_of_row w2 _ 1 _ _ _ RB; have f1 := frozen_of_row w2 _ 1 _ _ RB
    have r2 := cell_of_row w2 _ 2 _ _ _ RB; have f2 := frozen_of_row w2 _ 2 _ _ RB
    have r3 := cell_of_row w2 _ 3 _ _ _ RB; have f3 := frozen_of_row w2 _ 3 _ _ RB
    have r4 := cell_of_row w2 _ 4 _ _ _ RB; have f4 := frozen_of_row w2 _ 4 _ _ RB
    have r5 := cell_of_row w2 _ 5 _ _ _ RB; have f5 := frozen_of_row w2 _ 5 _ _ RB
    simp at r0 r1 r2 r3 r4 r5
    have HRB := Lib.hid RB
    clear RB
    go_wp2
    refine bodyPost_ret (results_cell_row rfl _ _ _ _ _ (0, 0) _ rfl (set6_block HRB.out _ _ _ _ _ _) Tryd.underlying30 rfl (by kernel_rfl)) rfl ?_
    rw [HA.out]
    exact la_box HRB.out (by omega) (FIN.out _ B2.out) (z6 (q)) (OR.void _ _) (OR.void _ _) (Apart.none_left _)
  have hl : lf6 o xs = 0 := by
    by_cases hl : lf6 o xs ≠ 0
    · rw [if_pos hl] at hq
      exact absurd (hq ▸ hz) hl
    · simpa using hl
  have hi : id6 id = true := by
    rw [if_neg (by simp [hl])] at hq
    rcases hi : id6 id with _ | _
    · rw [hi, if_pos rfl] at hq; omega
    · rfl
  have HF := Lib.hid hl
  have HI := Lib.hid hi
  subst hz
  clear hq hl hi
  obtain ⟨q0, q1⟩ := KS.out w2 B2.out
  have HA : Hid (pass6 o xs id = if o ≠ id then z6 7 else if xs.length = 0 then (0, false, -1, -1, [], []) else (0, false, gi xs 0, gi xs 0, xs.drop 1, [])) := by
    show _ = _
    unfold pass6 ps6
    rw [if_neg (by rw [HF.out]; simp), if_neg (by rw [HI.out]; simp)]
  by_cases ho : o = id
  rotate_left
  · have HB : Hid (pass6 o xs id = z6 7) := by show _ = _; rw [HA.out, if_pos ho]
    have ho' : (o != id) = true := by simp [ho]
    clear ho
    have RB := KR.out w2 B2.out
    have r0 := cell_of_row w2 _ 0 _ _ _ RB; have f0 := frozen_of_row w2 _ 0 _ _ RB
    have r1 := cell_of_row w2 _ 1 _ _ _ RB; have f1 := frozen_of_row w2 _ 1 _ _ RB
    have r2 := cell_of_row w2 _ 2 _ _ _ RB; have f2 := frozen_of_row w2 _ 2 _ _ RB
    have r3 := cell_of_row w2 _ 3 _ _ _ RB; have f3 := frozen_of_row w2 _ 3 _ _ RB
    have r4 := cell_of_row w2 _ 4 _ _ _ RB; have f4 := frozen_of_row w2 _ 4 _ _ RB
    have r5 := cell_of_row w2 _ 5 _ _ _ RB; have f5 := frozen_of_row w2 _ 5 _ _ RB
    simp at r0 r1 r2 r3 r4 r5
    have HRB := Lib.hid RB
    clear RB
    go_wp2
    refine bodyPost_ret (results_cell_row rfl _ _ _ _ _ (0, 0) _ rfl (set6_block HRB.out _ _ _ _ _ _) Tryd.underlying30 rfl (by kernel_rfl)) rfl ?_
    rw [HB.out]
    exact la_box HRB.out (by omega) (FIN.out _ B2.out) (z6 (7)) (OR.void _ _) (OR.void _ _) (Apart.none_left _)
  subst ho
  rcases n with _ | n
  · have HB : Hid (pass6 o xs o = (0, false, -1, -1, [], [])) := by show _ = _; rw [HA.out, if_neg (by simp), if_pos EX.out]
    have RB := KR.out w2 B2.out
    have r0 := cell_of_row w2 _ 0 _ _ _ RB; have f0 := frozen_of_row w2 _ 0 _ _ RB
    have r1 := cell_of_row w2 _ 1 _ _ _ RB; have f1 := frozen_of_row w2 _ 1 _ _ RB
    have r2 := cell_of_row w2 _ 2 _ _ _ RB; have f2 := frozen_of_row w2 _ 2 _ _ RB
    have r3 := cell_of_row w2 _ 3 _ _ _ RB; have f3 := frozen_of_row w2 _ 3 _ _ RB
    have r4 := cell_of_row w2 _ 4 _ _ _ RB; have f4 := frozen_of_row w2 _ 4 _ _ RB
    have r5 := cell_of_row w2 _ 5 _ _ _ RB; have f5 := frozen_of_row w2 _ 5 _ _ RB
    simp at r0 r1 r2 r3 r4 r5
    have HRB := Lib.hid RB
    clear RB
    go_wp2
    refine bodyPost_ret (results_cell_row rfl _ _ _ _ _ (0, 0) _ rfl (set6_block HRB.out _ _ _ _ _ _) Tryd.underlying30 rfl (by kernel_rfl)) rfl ?_
    rw [HB.out]
    exact la_box HRB.out (by omega) (FIN.out _ B2.out) ((0, false, -1, -1, [], [])) (OR.void _ _) (OR.void _ _) (Apart.none_left _)
  have HB : Hid (pass6 o xs o = (0, false, gi xs 0, gi xs 0, xs.drop 1, [])) := by show _ = _; rw [HA.out, if_neg (by simp), if_neg (by rw [EX.out]; omega)]
  obtain ⟨b, off, rfl, h1, h2, hc⟩ := (HL.out.below (FIN.out w2 B2.out) (by omega)).at_ (show 0 < n + 1 by omega)
  have hck := hc 0 (by omega)
  simp only [Nat.add_zero] at hck
  have CK := Lib.hid hck
  have BL := Lib.hid (show b < w.heap.size by omega)
  have htl := run_tail b off (n + 1) c (by omega)
  have NN : Hid ((xs.drop 1).length = n) := by show _ = _; simp [EX.out]
  have CT : Hid (∀ W, Below w1.heap.size w1 W → Calls Tryd.prog 41 #[.slice (some (nextA b off c)) n (c - 1)] W fun e w' => ∃ A' c', e = .returned (.slice A' n c') ∧ OR 2 1 w' w1.heap.size A' n c' (xs.drop 1) ∧ Below w1.heap.size w1 w') := fun W hW =>
    (l1IntsO_any lo (min hi w.heap.size) (some (nextA b off c)) n (c - 1) (xs.drop 1) W (by omega) NN.out (by simp) (sl_tail (n := n + 1) EX.out NC.out (HL.out.below (FIN.out W hW) (by omega)))).mono fun e w' ⟨A', c', h1, h2, h3⟩ => ⟨A', c', h1, OR.mono h2 hW.size, hW.trans (h3.mono hW.size)⟩
  have KC : Hid (∀ W, Below w1.heap.size w1 W → W.cell? ⟨b, off, none⟩ = some (.int .i64 (gi xs 0))) := fun W hW => by
    have := (((FIN.out W hW).cell (p := ⟨b, off, none⟩) (by simpa using BL.out)))
    rw [this, ← ((FIN.out w2 B2.out).cell (p := ⟨b, off, none⟩) (by simpa using BL.out))]
    exact CK.out
  have hn0 : (n + 1 : Nat) - 1 = n := rfl
  rw [hn0] at htl
  clear hc h1 h2 hn0
  go_upto_region 8 with (fail)
  refine wp_region_held_drew (S := fun W => W.cell? ⟨w.heap.size, 0, none⟩ = some (.int .i64 o) ∧ W.cell? ⟨w.heap.size, 1, none⟩ = some (.slice (some ⟨b, off, none⟩) (n + 1) c) ∧ W.cell? ⟨b, off, none⟩ = some (.int .i64 (gi xs 0))) (by kernel_rfl) (⟨(KS.out _ B2.out.drew).1, (KS.out _ B2.out.drew).2, KC.out _ B2.out.drew⟩) (fun hHeld => ?_)
  obtain ⟨v0, hv0⟩ : ∃ v0, v0 = w2.drew := ⟨_, rfl⟩
  have BL0 : Hid (Below w2.heap.size w2 v0) := by rw [hv0]; exact Below.drew (Below.refl _ _)
  rw [← hv0] at hHeld ⊢
  clear hv0
  refine wpAnyH_take (i := 0) (oi := _) (v := ?_) rfl (by kernel_rfl) (by kernel_rfl) (by kernel_rfl) (fun _ _ _ h => h) (Or.inl ⟨by rfl, ?_⟩) hHeld ?_
  rotate_left
  · (intro w hSw; (try dsimp only at hSw); go_simp; try with_reducible rfl)
  try simp only [Act.put, List.getElem_toArray, List.getElem_cons_succ, List.getElem_cons_zero, List.setIfInBounds_toArray, List.set_cons_zero, List.set_cons_succ]
  refine wpAnyH_take (i := 1) (oi := _) (v := ?_) rfl (by kernel_rfl) (by kernel_rfl) (by kernel_rfl) (fun _ _ _ h => h) (Or.inl ⟨by rfl, ?_⟩) hHeld ?_
  rotate_left
  · (intro w hSw; (try dsimp only at hSw); go_simp; try with_reducible rfl)
  try simp only [Act.put, List.getElem_toArray, List.getElem_cons_succ, List.getElem_cons_zero, List.setIfInBounds_toArray, List.set_cons_zero, List.set_cons_succ]
  refine wpAnyH_take (i := 2) (oi := _) (v := ?_) rfl (by kernel_rfl) (by kernel_rfl) (by kernel_rfl) (fun _ _ _ h => h) (Or.inl ⟨by rfl, ?_⟩) hHeld ?_
  rotate_left
  · (intro w hSw; (try dsimp only at hSw); go_simp; try with_reducible rfl)
  try simp only [Act.put, List.getElem_toArray, List.getElem_cons_succ, List.getElem_cons_zero, List.setIfInBounds_toArray, List.set_cons_zero, List.set_cons_succ]
  refine wpAnyH_take (i := 3) (oi := _) (v := ?_) rfl (by kernel_rfl) (by kernel_rfl) (by kernel_rfl) (fun _ _ _ h => h) (Or.inl ⟨by rfl, ?_⟩) hHeld ?_
  rotate_left
  · (intro w hSw; (try dsimp only at hSw); go_simp; try with_reducible rfl)
  try simp only [Act.put, List.getElem_toArray, List.getElem_cons_succ, List.getElem_cons_zero, List.setIfInBounds_toArray, List.set_cons_zero, List.set_cons_succ]
  refine wpAnyH_take (i := 4) (oi := _) (v := ?_) rfl (by kernel_rfl) (by kernel_rfl) (by kernel_rfl) (fun _ _ _ h => h) (Or.inl ⟨by rfl, ?_⟩) hHeld ?_
  rotate_left
  · (intro w hSw; (try dsimp only at hSw); go_simp; try with_reducible rfl)
  try simp only [Act.put, List.getElem_toArray, List.getElem_cons_succ, List.getElem_cons_zero, List.setIfInBounds_toArray, List.set_cons_zero, List.set_cons_succ]
  refine wpAnyH_take (i := 5) (oi := _) (v := ?_) rfl (by kernel_rfl) (by kernel_rfl) (by kernel_rfl) (fun _ _ _ h => h) (Or.inl ⟨by rfl, ?_⟩) hHeld ?_
  rotate_left
  · (intro w hSw; (try dsimp only at hSw); go_simp; try with_reducible rfl)
  try simp only [Act.put, List.getElem_toArray, List.getElem_cons_succ, List.getElem_cons_zero, List.setIfInBounds_toArray, List.set_cons_zero, List.set_cons_succ]
  refine wpAnyH_take (i := 6) (oi := _) (v := ?_) rfl (by kernel_rfl) (by kernel_rfl) (by kernel_rfl) (fun _ _ _ h => h) (Or.inl ⟨by rfl, ?_⟩) hHeld ?_
  rotate_left
  · (intro w hSw; (try dsimp only at hSw); go_simp; try with_reducible rfl)
  try simp only [Act.put, List.getElem_toArray, List.getElem_cons_succ, List.getElem_cons_zero, List.setIfInBounds_toArray, List.set_cons_zero, List.set_cons_succ]
  refine wpAnyH_take (i := 7) (oi := _) (v := ?_) rfl (by kernel_rfl) (by kernel_rfl) (by kernel_rfl) (fun _ _ _ h => h) (Or.inl ⟨by rfl, ?_⟩) hHeld ?_
  rotate_left
  · (intro w hSw; (try dsimp only at hSw); go_simp; try with_reducible rfl)
  try simp only [Act.put, List.getElem_toArray, List.getElem_cons_succ, List.getElem_cons_zero, List.setIfInBounds_toArray, List.set_cons_zero, List.set_cons_succ]
  refine wpAnyH_take (i := 8) (oi := _) (v := ?_) rfl (by kernel_rfl) (by kernel_rfl) (by kernel_rfl) (fun _ _ _ h => h) (Or.inl ⟨by rfl, ?_⟩) hHeld ?_
  rotate_left
  · (intro w hSw; (try dsimp only at hSw); go_simp; try with_reducible rfl)
  try simp only [Act.put, List.getElem_toArray, List.getElem_cons_succ, List.getElem_cons_zero, List.setIfInBounds_toArray, List.set_cons_zero, List.set_cons_succ]
  refine wpAnyH_take (i := 9) (oi := _) (v := ?_) rfl (by kernel_rfl) (by kernel_rfl) (by kernel_rfl) (fun _ _ _ h => h) (Or.inl ⟨by rfl, ?_⟩) hHeld ?_
  rotate_left
  · (intro w hSw; (try dsimp only at hSw); go_simp; try with_reducible rfl)
  try simp only [Act.put, List.getElem_toArray, List.getElem_cons_succ, List.getElem_cons_zero, List.setIfInBounds_toArray, List.set_cons_zero, List.set_cons_succ]
  refine wpAnyH_take (i := 10) (oi := _) (v := ?_) rfl (by kernel_rfl) (by kernel_rfl) (by kernel_rfl) (fun _ _ _ h => h) (Or.inl ⟨by rfl, ?_⟩) hHeld ?_
  rotate_left
  · (intro w hSw; (try dsimp only at hSw); go_simp; try with_reducible rfl)
  try simp only [Act.put, List.getElem_toArray, List.getElem_cons_succ, List.getElem_cons_zero, List.setIfInBounds_toArray, List.set_cons_zero, List.set_cons_succ]
  refine wpAnyH_ready (rs := [11]) (by kernel_rfl) (by simp) ?_
  refine AllReadyH.cons (o := _) rfl (fun K0 hK0 => ?_) AllReadyH.nil
  go_simp
  refine (CT.out _ (B2.out.trans (BL0.out.mono B2.out.size))).mono ?_
  rintro e9 v1 ⟨A', c', rfl, ho, hb⟩
  go_wp2_with fail
  have BL1 := Lib.hid hb
  have OW := Lib.hid ho
  have KV := Lib.hid (KR.out v1 BL1.out)
  clear ho hb
  refine hK0.out _ _ (⟨(KS.out _ BL1.out).1, (KS.out _ BL1.out).2, KC.out _ BL1.out⟩) (fun hHeld => ?_)
  clear hK0 K0
  try simp only [Act.put, List.getElem_toArray, List.getElem_cons_succ, List.getElem_cons_zero, List.setIfInBounds_toArray, List.set_cons_zero, List.set_cons_succ]
  refine wpAnyH_take (i := 12) (oi := _) (v := ?_) rfl (by kernel_rfl) (by kernel_rfl) (by kernel_rfl) (fun _ _ _ h => h) (Or.inl ⟨by rfl, ?_⟩) hHeld ?_
  rotate_left
  · (intro w hSw; (try dsimp only at hSw); go_simp; try with_reducible rfl)
  try simp only [Act.put, List.getElem_toArray, List.getElem_cons_succ, List.getElem_cons_zero, List.setIfInBounds_toArray, List.set_cons_zero, List.set_cons_succ]
  refine wpAnyH_take (i := 13) (oi := _) (v := ?_) rfl (by kernel_rfl) (by kernel_rfl) (by kernel_rfl) (fun _ _ _ h => h) (Or.inl ⟨by rfl, ?_⟩) hHeld ?_
  rotate_left
  · (intro w hSw; (try dsimp only at hSw); go_simp; try with_reducible rfl)
  try simp only [Act.put, List.getElem_toArray, List.getElem_cons_succ, List.getElem_cons_zero, List.setIfInBounds_toArray, List.set_cons_zero, List.set_cons_succ]
  refine wpAnyH_ready (rs := [14]) (by kernel_rfl) (by simp) ?_
  refine AllReadyH.cons (o := _) rfl (fun K0 hK0 => ?_) AllReadyH.nil
  clear hHeld
  rw [if_pos (by rfl)]
  refine wp_store_row 30 _ _ rfl (w.heap.size + 1) _ rfl rfl 30 _ KV.out (by kernel_rfl) rfl (by simp [Value.oneCell']) ?_
  refine hK0.out _ _ (⟨(cell_setRow_other _ _ _ _ (by simp)).trans (KS.out _ BL1.out).1, (cell_setRow_other _ _ _ _ (by simp)).trans (KS.out _ BL1.out).2, (cell_setRow_other _ _ _ _ (by have := BL.out; simp; omega)).trans (KC.out _ BL1.out)⟩) (fun hHeld => ?_)
  clear hK0 K0
  try simp only [Act.put, List.getElem_toArray, List.getElem_cons_succ, List.getElem_cons_zero, List.setIfInBounds_toArray, List.set_cons_zero, List.set_cons_succ]
  refine wpAnyH_done (by kernel_rfl) ?_ _
  have O1 := Lib.hid (OR.mono (base' := w.heap.size) OW.out (by have := Z1.out; omega))
  have BF := Lib.hid (FIN.out _ BL1.out)
  have EN := NN.out
  go_wp2
  rw [← EN] at O1 ⊢
  refine bodyPost_ret (results_cell_row rfl _ _ _ _ _ (0, 0) _ rfl (setRow_heap _ _ _ _ _ _ KV.out) Tryd.underlying30 rfl (by kernel_rfl)) rfl ?_
  rw [HB.out]
  exact la_row KV.out (by omega) BF.out (0, false, gi xs 0, gi xs 0, xs.drop 1, []) O1.out (OR.void _ _) (Apart.none_right _)

end Go.Proofs.YtachpoehejdpjaaDoor
