/-
  The model's TakeLock. No conditions beyond that the lists can be read.
-/
import Derived.Test.YtachpoehejdpjaaDoorSpec6b
import Derived.Test.YtachpoehejdpjaaDoorSpec6c
namespace Go.Proofs.YtachpoehejdpjaaDoor
open Go.RowKit
set_option maxRecDepth 100000

set_option maxHeartbeats 4000000 in
theorem specTakeLock_any (lo hi : Nat) (A : Option Addr) (n c : Nat) (o : Int) (xs : List Int) (id : Int) (w : World) (hn : n ≤ 1048576) (hnc : n ≤ c) (ex : xs.length = n) (hA : A = none → c = 0) (h : Sl w lo hi A n (fun k => .int .i64 (gi xs k))) :
    Calls Tryd.prog 11 #[.agg #[.int .i64 o, .slice A n c], .int .i64 id] w (LA (take6 o xs id) w) := by
  obtain ⟨i0, hi0, hz0, hz1, hz2⟩ := info_parts Tryd.info_i64
  obtain ⟨w1, hw1⟩ : ∃ w1, w1 = (w.alloc (.cells #[.int .i64 o, .slice A n c] 26)).alloc (.cells #[.int .i64 0, .bool false, .int .i64 0, .int .i64 0, .slice none 0 0, .slice none 0 0] 30) := ⟨_, rfl⟩
  have K1 : Hid (w1.heap[w.heap.size]? = some (.cells #[.int .i64 o, .slice A n c] 26 (0, 0))) := by show _ = _; rw [hw1]; exact heap_alloc2_old w _ _
  have K2 : Hid (w1.heap[w.heap.size + 1]? = some (.cells #[.int .i64 0, .bool false, .int .i64 0, .int .i64 0, .slice none 0 0, .slice none 0 0] 30 (0, 0))) := by show _ = _; rw [hw1]; exact heap_alloc2_new w _ _
  have B1 : Hid (Below w.heap.size w w1) := by rw [hw1]; exact (below_new w _).alloc (by simp) _
  have Z1 : Hid (w1.heap.size = w.heap.size + 2) := by show _ = _; rw [hw1]; simp
  have KB : Hid (∀ W, Below w1.heap.size w1 W → W.heap[w.heap.size]? = some (.cells #[.int .i64 o, .slice A n c] 26 (0, 0))) := fun W hW => (hW.block w.heap.size (by have := Z1.out; omega)).trans K1.out
  have KS : Hid (∀ W, Below w1.heap.size w1 W → W.cell? ⟨w.heap.size, 0, none⟩ = some (.int .i64 o) ∧ W.cell? ⟨w.heap.size, 1, none⟩ = some (.slice A n c)) := fun W hW => by
    have j := KB.out W hW
    exact ⟨cell_of_row W _ 0 _ _ _ j, cell_of_row W _ 1 _ _ _ j⟩
  have KR : Hid (∀ W, Below w1.heap.size w1 W → W.heap[w.heap.size + 1]? = some (.cells #[.int .i64 0, .bool false, .int .i64 0, .int .i64 0, .slice none 0 0, .slice none 0 0] 30 (0, 0))) := fun W hW => (hW.block (w.heap.size + 1) (by have := Z1.out; omega)).trans K2.out
  have FIN : Hid (∀ W, Below w1.heap.size w1 W → Below w.heap.size w W) := fun W hW => B1.out.trans (hW.mono (by have := Z1.out; omega))
  have HL := Lib.hid h.lt
  have EX := Lib.hid ex
  have NC := Lib.hid hnc
  have AK := Lib.hid (l6Asked_any lo (min hi w.heap.size) A n c w.heap.size o id xs w1 (by omega) hnc ex (HL.out.below B1.out (by omega)) K1.out)
  have HS : Hid (∀ W, Below w1.heap.size w1 W → Calls Tryd.prog 39 #[.slice A n c, .int .i64 id] W fun e w' => e = .returned (.bool (decide (id ∈ xs))) ∧ W = w') := fun W hW =>
    l1Has_any lo (min hi w.heap.size) A n c xs id W (by omega) ex (HL.out.below (FIN.out W hW) (by omega))
  have CP : Hid (∀ W, Below w1.heap.size w1 W → Calls Tryd.prog 37 #[.pointer (some ⟨w.heap.size, 0, none⟩)] W fun e w' => ∃ A' c', e = .returned (.agg #[.int .i64 o, .slice A' n c']) ∧ OR 2 1 w' w1.heap.size A' n c' xs ∧ Below w1.heap.size w1 w') := fun W hW =>
    (l6Copy_any lo (min hi w.heap.size) A n c w.heap.size o xs W hn ex hA (HL.out.below (FIN.out W hW) (by omega)) (KB.out W hW)).mono fun e w' ⟨A', c', h1, h2, h3⟩ => ⟨A', c', h1, OR.mono h2 hW.size, hW.trans (h3.mono hW.size)⟩
  have HAN := Lib.hid hA
  have HW1 := Lib.hid hw1
  clear hw1 hnc ex hA h
  go_enter Tryd.func11, Tryd.ntmps11
  go_upto_region 1 with (fail)
  rw [← HW1.out]
  clear HW1
  go_wp2_with fail
  refine AK.out.mono ?_
  rintro e9 w2 ⟨rfl, hb⟩
  have B2 := Lib.hid hb
  clear hb AK
  obtain ⟨q, hq⟩ : ∃ q, q = (if lf6 o xs ≠ 0 then lf6 o xs else if id6 id = false then 3 else 0) := ⟨_, rfl⟩
  rw [← hq]
  by_cases hz : q = 0
  rotate_left
  · have hz' : (q != 0) = true := by simp [hz]
    have HA : Hid (take6 o xs id = z6 q) := by
      show _ = _
      unfold take6
      by_cases hl : lf6 o xs ≠ 0
      · rw [if_pos hl] at hq
        rw [if_pos hl, hq]
      · rw [if_neg hl] at hq
        rw [if_neg hl]
        by_cases hi : id6 id = false
        · rw [if_pos hi] at hq
          unfold tk6
          rw [if_pos hi, hq]
        · rw [if_neg hi] at hq
          exact absurd hq hz
    clear hq hz
    have RB := KR.out w2 B2.out
    have r0 := cell_of_row w2 _ 0 _ _ _ RB; have f0 := frozen_of_row w2 _ 0 _ _ RB
    have r1 := cell_of_row w2 _ 1 _ _ _ RB; have f1 := frozen_of_row w2 _ 1 _ _ RB
    have r2 := cell_of_row w2 _ 2 _ _ _ RB; have f2 := frozen_of_row w2 _ 2 _ _ RB
    have r3 := cell_of_row w2 _ 3 _ _ _ RB; have f3 := frozen_of_row w2 _ 3 _ _ RB
    have r4 := cell_of_row w2 _ 4 _ _ _ RB; have f4 := frozen_of_row w2 _ 4 _ _ RB
    have r5 := cell_of_row w2 _ 5 _ _ _ RB; have f5 := frozen_of_row w2 _ 5 _ _ RB
    simp at r0 r1 r2 r3 r4 r5
    have HRB := Lib.hid RB
    clear RB
    go_wp2
    refine bodyPost_ret (results_cell_row rfl _ _ _ _ _ (0, 0) _ rfl (set6_block HRB.out _ _ _ _ _ _) Tryd.underlying30 rfl (by kernel_rfl)) rfl ?_
    rw [HA.out]
    exact la_box HRB.out (by omega) (FIN.out _ B2.out) (z6 (q)) (OR.void _ _) (OR.void _ _) (Apart.none_left _)
  have hl : lf6 o xs = 0 := by
    by_cases hl : lf6 o xs ≠ 0
    · rw [if_pos hl] at hq
      exact absurd (hq ▸ hz) hl
    · simpa using hl
  have hi : id6 id = true := by
    rw [if_neg (by simp [hl])] at hq
    rcases hi : id6 id with _ | _
    · rw [hi, if_pos rfl] at hq; omega
    · rfl
  have HF := Lib.hid hl
  have HI := Lib.hid hi
  subst hz
  clear hq hl hi
  obtain ⟨q0, q1⟩ := KS.out w2 B2.out
  have HA : Hid (take6 o xs id = if o = id ∨ id ∈ xs then z6 6 else if o = -1 then (0, true, -1, id, [], []) else (0, false, -1, o, xs ++ [id], [])) := by
    show _ = _
    unfold take6 tk6
    rw [if_neg (by rw [HF.out]; simp), if_neg (by rw [HI.out]; simp)]
  by_cases ho : o = id
  · have HB : Hid (take6 o xs id = z6 6) := by show _ = _; rw [HA.out, if_pos (.inl ho)]
    have ho' : (o == id) = true := by simp [ho]
    clear ho
    have RB := KR.out w2 B2.out
    have r0 := cell_of_row w2 _ 0 _ _ _ RB; have f0 := frozen_of_row w2 _ 0 _ _ RB
    have r1 := cell_of_row w2 _ 1 _ _ _ RB; have f1 := frozen_of_row w2 _ 1 _ _ RB
    have r2 := cell_of_row w2 _ 2 _ _ _ RB; have f2 := frozen_of_row w2 _ 2 _ _ RB
    have r3 := cell_of_row w2 _ 3 _ _ _ RB; have f3 := frozen_of_row w2 _ 3 _ _ RB
    have r4 := cell_of_row w2 _ 4 _ _ _ RB; have f4 := frozen_of_row w2 _ 4 _ _ RB
    have r5 := cell_of_row w2 _ 5 _ _ _ RB; have f5 := frozen_of_row w2 _ 5 _ _ RB
    simp at r0 r1 r2 r3 r4 r5
    have HRB := Lib.hid RB
    clear RB
    go_wp2
    refine bodyPost_ret (results_cell_row rfl _ _ _ _ _ (0, 0) _ rfl (set6_block HRB.out _ _ _ _ _ _) Tryd.underlying30 rfl (by kernel_rfl)) rfl ?_
    rw [HB.out]
    exact la_box HRB.out (by omega) (FIN.out _ B2.out) (z6 (6)) (OR.void _ _) (OR.void _ _) (Apart.none_left _)
  have ho' : (o == id) = false := by simp [ho]
  by_cases hm : id ∈ xs
  · have HB : Hid (take6 o xs id = z6 6) := by show _ = _; rw [HA.out, if_pos (.inr hm)]
    have hd : decide (id ∈ xs) = true := by simpa using hm
    rw [hd] at HS
    clear hd hm ho
    have RB := KR.out w2 B2.out
    have r0 := cell_of_row w2 _ 0 _ _ _ RB; have f0 := frozen_of_row w2 _ 0 _ _ RB
    have r1 := cell_of_row w2 _ 1 _ _ _ RB; have f1 := frozen_of_row w2 _ 1 _ _ RB
    have r2 := cell_of_row w2 _ 2 _ _ _ RB; have f2 := frozen_of_row w2 _ 2 _ _ RB
    have r3 := cell_of_row w2 _ 3 _ _ _ RB; have f3 := frozen_of_row w2 _ 3 _ _ RB
    have r4 := cell_of_row w2 _ 4 _ _ _ RB; have f4 := frozen_of_row w2 _ 4 _ _ RB
    have r5 := cell_of_row w2 _ 5 _ _ _ RB; have f5 := frozen_of_row w2 _ 5 _ _ RB
    simp at r0 r1 r2 r3 r4 r5
    have HRB := Lib.hid RB
    clear RB
    go_wp2_with (go_at_call 39; refine (HS.out _ B2.out).mono ?_; rintro e9 w9 ⟨rfl, rfl⟩)
    refine bodyPost_ret (results_cell_row rfl _ _ _ _ _ (0, 0) _ rfl (set6_block HRB.out _ _ _ _ _ _) Tryd.underlying30 rfl (by kernel_rfl)) rfl ?_
    rw [HB.out]
    exact la_box HRB.out (by omega) (FIN.out _ B2.out) (z6 (6)) (OR.void _ _) (OR.void _ _) (Apart.none_left _)
  have HB : Hid (take6 o xs id = if o = -1 then (0, true, -1, id, [], []) else (0, false, -1, o, xs ++ [id], [])) := by
    show _ = _
    rw [HA.out, if_neg]
    rintro (h1 | h1)
    · exact ho h1
    · exact hm h1
  have hd : decide (id ∈ xs) = false := by simpa using hm
  rw [hd] at HS
  clear hd hm ho
  go_wp2_with (first
    | (go_at_call 39; refine (HS.out _ B2.out).mono ?_; rintro e9 w9 ⟨rfl, rfl⟩)
    | fail)
  refine (CP.out _ B2.out).mono ?_
  rintro e9 w3 ⟨A', c', rfl, ho, hb⟩
  have O3 := Lib.hid ho
  have B3 := Lib.hid hb
  obtain ⟨w4, hw4⟩ : ∃ w4, w4 = w3.alloc (.cells #[.int .i64 o, .slice A' n c'] 26) := ⟨_, rfl⟩
  have K4 : Hid (w4.heap[w3.heap.size]? = some (.cells #[.int .i64 o, .slice A' n c'] 26 (0, 0))) := by show _ = _; rw [hw4]; exact heap_alloc_new w3 _
  have O4 : Hid (OR 2 1 w4 w1.heap.size A' n c' xs) := by rw [hw4]; exact OR.alloc O3.out _
  have B4 : Hid (Below w1.heap.size w1 w4) := by rw [hw4]; exact B3.out.alloc B3.out.size _
  have Z4 : Hid (w4.heap.size = w3.heap.size + 1 ∧ w1.heap.size ≤ w3.heap.size) := by refine ⟨?_, B3.out.size⟩; rw [hw4]; simp
  have HW4 := Lib.hid hw4
  clear ho hb hw4 CP HS
  obtain ⟨g4, hg4⟩ : ∃ g4, g4 = w3.heap.size := ⟨_, rfl⟩
  rw [← hg4] at K4 Z4
  have e0 := cell_of_row w4 _ 0 _ _ _ K4.out; have e1 := cell_of_row w4 _ 1 _ _ _ K4.out; have h0 := frozen_of_row w4 _ 0 _ _ K4.out; have h1 := frozen_of_row w4 _ 1 _ _ K4.out
  simp at e0 e1
  obtain ⟨p0, p1⟩ := KS.out w4 B4.out
  clear q0 q1
  by_cases hone : o = -1
  · have HC : Hid (take6 o xs id = (0, true, -1, id, [], [])) := by show _ = _; rw [HB.out, if_pos hone]
    have hx : xs = [] := (lf6_zero HF.out).2.2.1 hone
    have hn0 : n = 0 := by rw [← EX.out, hx]; rfl
    subst hx
    subst hn0
    have hq1 : (o == -1) = true := by simp [hone]
    clear hone ho'
    obtain ⟨w5, hw5⟩ : ∃ w5, w5 = w4.setCell ⟨g4, 0, none⟩ (.int .i64 id) := ⟨_, rfl⟩
    have K5 : Hid (w5.heap[g4]? = some (.cells #[.int .i64 id, .slice A' 0 c'] 26 (0, 0))) := by show _ = _; rw [hw5]; exact heap_setCell_same w4 _ 0 _ _ _ K4.out
    have O5 : Hid (OR 2 1 w5 w1.heap.size A' 0 c' []) := by rw [hw5]; exact OR.setOther6 O4.out K4.out (by decide) 0 _
    have B5 : Hid (Below w1.heap.size w1 w5) := by rw [hw5]; exact B4.out.setCell (p := ⟨g4, 0, none⟩) (by have := Z4.out; simp; omega) _
    have HW5 := Lib.hid hw5
    clear hw5
    go_upto_region 7 with (fail)
    rw [← HW4.out, ← hg4]
    clear HW4 hg4
    go_upto_region 9 with (fail)
    rw [← HW5.out]
    clear HW5 e0 e1 h0 h1 p0 p1
    have e0 := cell_of_row w5 _ 0 _ _ _ K5.out; have e1 := cell_of_row w5 _ 1 _ _ _ K5.out
    simp at e0 e1
    have RB := KR.out w5 B5.out
    have r0 := cell_of_row w5 _ 0 _ _ _ RB; have f0 := frozen_of_row w5 _ 0 _ _ RB
    have r1 := cell_of_row w5 _ 1 _ _ _ RB; have f1 := frozen_of_row w5 _ 1 _ _ RB
    have r2 := cell_of_row w5 _ 2 _ _ _ RB; have f2 := frozen_of_row w5 _ 2 _ _ RB
    have r3 := cell_of_row w5 _ 3 _ _ _ RB; have f3 := frozen_of_row w5 _ 3 _ _ RB
    have r4 := cell_of_row w5 _ 4 _ _ _ RB; have f4 := frozen_of_row w5 _ 4 _ _ RB
    have r5 := cell_of_row w5 _ 5 _ _ _ RB; have f5 := frozen_of_row w5 _ 5 _ _ RB
    simp at r0 r1 r2 r3 r4 r5
    have HRB := Lib.hid RB
    clear RB
    go_wp2
    refine bodyPost_ret (results_cell_row rfl _ _ _ _ _ (0, 0) _ rfl (set6_block HRB.out _ _ _ _ _ _) Tryd.underlying30 rfl (by kernel_rfl)) rfl ?_
    rw [HC.out]
    exact la_box HRB.out (by omega) (FIN.out _ B5.out) ((0, true, -1, id, [], [])) (OR.mono O5.out (by have := Z1.out; omega)) (OR.void _ _) (Apart.none_right _)
  have HC : Hid (take6 o xs id = (0, false, -1, o, xs ++ [id], [])) := by show _ = _; rw [HB.out, if_neg hone]
  have hq1 : (o == -1) = false := by simp [hone]
  clear hone ho'
  have OA := Lib.hid (OR.alloc O4.out (.cells #[.int .i64 id] 2))
  have BA := Lib.hid (show Below w1.heap.size w1 (w4.alloc (.cells #[.int .i64 id] 2)) from B4.out.alloc B4.out.size _)
  have KA := Lib.hid (show (w4.alloc (.cells #[.int .i64 id] 2)).heap[g4]? = some (.cells #[.int .i64 o, .slice A' n c'] 26 (0, 0)) from (Below.heap_alloc _ _ _ (by have := Z4.out; omega)).trans K4.out)
  have NW := Lib.hid (one_new6 w4 id)
  go_upto_region 7 with (fail)
  rw [← HW4.out, ← hg4]
  clear HW4 hg4
  go_upto_region 11 with
    (at_builtin
     refine wpList_append_own _ rfl (.tmp 33) (.tmp 35) 24 rfl w1.heap.size 2 i0 (.int .i64 0) 1 8 Tryd.underlying24 hi0 hz0 hz1 hz2 rfl (by decide) ((.slice A' n c')) n (vals xs) rfl OA.out ⟨w4.heap.size, 0, none⟩ 1 1 [.int .i64 id] rfl rfl NW.out (by simp [Value.oneCell']) (by unfold maxLen; omega) (by omega) BA.out.size ?_
     intro v' w6 hown hgrow _
     have HO6 := Lib.hid (row_more6 hown)
     have B6 := Lib.hid (BA.out.trans (OR.grew6 OA.out BA.out.size hgrow))
     have K6 := Lib.hid ((hgrow.block g4 (Array.getElem?_eq_some_iff.1 KA.out).1 (own_ne6 OA.out KA.out (by decide))).trans KA.out)
     clear hown hgrow
     obtain ⟨A3, c3, rfl, ho3⟩ := HO6.out
     have O6 := Lib.hid ho3
     clear ho3 HO6
     have e0 := cell_of_row w6 _ 0 _ _ _ K6.out
     have e1 := cell_of_row w6 _ 1 _ _ _ K6.out
     have h0 := frozen_of_row w6 _ 0 _ _ K6.out
     have h1 := frozen_of_row w6 _ 1 _ _ K6.out
     simp at e0 e1)


  obtain ⟨w7, hw7⟩ : ∃ w7, w7 = w6.setCell ⟨g4, 1, none⟩ (.slice A3 (n + 1) c3) := ⟨_, rfl⟩
  have K7 : Hid (w7.heap[g4]? = some (.cells #[.int .i64 o, .slice A3 (n + 1) c3] 26 (0, 0))) := by show _ = _; rw [hw7]; exact heap_setCell_same w6 _ 1 _ _ _ K6.out
  have O7 : Hid (OR 2 1 w7 w1.heap.size A3 (n + 1) c3 (xs ++ [id])) := by rw [hw7]; exact OR.setOther6 O6.out K6.out (by decide) 1 _
  have B7 : Hid (Below w1.heap.size w1 w7) := by rw [hw7]; exact B6.out.setCell (p := ⟨g4, 1, none⟩) (by have := Z4.out; simp; omega) _
  rw [← hw7]
  clear hw7 e0 e1 h0 h1 p0 p1
  have e0 := cell_of_row w7 _ 0 _ _ _ K7.out; have e1 := cell_of_row w7 _ 1 _ _ _ K7.out
  simp at e0 e1
  have RB := KR.out w7 B7.out
  have r0 := cell_of_row w7 _ 0 _ _ _ RB; have f0 := frozen_of_row w7 _ 0 _ _ RB
  have r1 := cell_of_row w7 _ 1 _ _ _ RB; have f1 := frozen_of_row w7 _ 1 _ _ RB
  have r2 := cell_of_row w7 _ 2 _ _ _ RB; have f2 := frozen_of_row w7 _ 2 _ _ RB
  have r3 := cell_of_row w7 _ 3 _ _ _ RB; have f3 := frozen_of_row w7 _ 3 _ _ RB
  have r4 := cell_of_row w7 _ 4 _ _ _ RB; have f4 := frozen_of_row w7 _ 4 _ _ RB
  have r5 := cell_of_row w7 _ 5 _ _ _ RB; have f5 := frozen_of_row w7 _ 5 _ _ RB
  simp at r0 r1 r2 r3 r4 r5
  have HRB := Lib.hid RB
  clear RB
  go_wp2
  have EL : Hid (n + 1 = (xs ++ [id]).length) := by show _ = _; simp [EX.out]
  have EN := EL.out
  rw [EN] at O7 ⊢
  refine bodyPost_ret (results_cell_row rfl _ _ _ _ _ (0, 0) _ rfl (set6_block HRB.out _ _ _ _ _ _) Tryd.underlying30 rfl (by kernel_rfl)) rfl ?_
  rw [HC.out]
  exact la_box HRB.out (by omega) (FIN.out _ B7.out) ((0, false, -1, o, xs ++ [id], [])) (OR.mono O7.out (by have := Z1.out; omega)) (OR.void _ _) (Apart.none_right _)


end Go.Proofs.YtachpoehejdpjaaDoor
