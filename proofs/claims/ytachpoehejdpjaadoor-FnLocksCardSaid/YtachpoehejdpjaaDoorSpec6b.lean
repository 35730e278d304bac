/-
  The model's questions on locks. No conditions beyond that the lists can be read.
-/
import Derived.Test.YtachpoehejdpjaaDoorSpec6a
namespace Go.Proofs.YtachpoehejdpjaaDoor
open Go.RowKit
set_option maxRecDepth 100000

set_option maxHeartbeats 2000000 in
theorem specLockFault_any (lo hi : Nat) (A : Option Addr) (n c : Nat) (o : Int) (xs : List Int) (w : World) (hn : n * 8 ≤ 140737488351232) (hnc : n ≤ c) (ex : xs.length = n) (h : Sl w lo hi A n (fun k => .int .i64 (gi xs k))) :
    Calls Tryd.prog 16 #[.agg #[.int .i64 o, .slice A n c]] w fun e w' => e = .returned (.int .i64 (lf6 o xs)) ∧ Below w.heap.size w w' := by
  obtain ⟨w1, hw1⟩ : ∃ w1, w1 = w.alloc (.cells #[.int .i64 o, .slice A n c] 26) := ⟨_, rfl⟩
  have k1 : w1.heap[w.heap.size]? = some (.cells #[.int .i64 o, .slice A n c] 26 (0, 0)) := by rw [hw1]; exact heap_alloc_new w _
  have B1 : Hid (Below w.heap.size w w1) := by rw [hw1]; exact below_new w _
  have Z1 : Hid (w1.heap.size = w.heap.size + 1) := by show _ = _; rw [hw1]; simp
  have QS : Hid (∀ W, Below w1.heap.size w1 W → W.cell? ⟨w.heap.size, 0, none⟩ = some (.int .i64 o) ∧ W.cell? ⟨w.heap.size, 1, none⟩ = some (.slice A n c)) := fun W hW => by
    have j := (hW.block w.heap.size (by have := Z1.out; omega)).trans k1
    exact ⟨cell_of_row W _ 0 _ _ _ j, cell_of_row W _ 1 _ _ _ j⟩
  have HL := Lib.hid h.lt
  have EX := Lib.hid ex
  have FIN : Hid (∀ W, Below w1.heap.size w1 W → Below w.heap.size w W) := fun W hW => B1.out.trans (hW.mono (by have := Z1.out; omega))
  have QF : Hid (∀ W, Below w1.heap.size w1 W → Calls Tryd.prog 27 #[.slice A n c] W fun e w' => e = .returned (.int .i64 (qf6 xs)) ∧ Below W.heap.size W w') := fun W hW =>
    specQueueFault_any lo (min hi w.heap.size) A n c xs W hn hnc ex (HL.out.below (FIN.out W hW) (by omega))
  have HS : Hid (∀ W, Below w1.heap.size w1 W → Calls Tryd.prog 39 #[.slice A n c, .int .i64 o] W fun e w' => e = .returned (.bool (decide (o ∈ xs))) ∧ W = w') := fun W hW =>
    l1Has_any lo (min hi w.heap.size) A n c xs o W hn ex (HL.out.below (FIN.out W hW) (by omega))
  have HW1 := Lib.hid hw1
  have R0 : Hid (Below w1.heap.size w1 w1) := Below.refl _ _
  clear h ex hw1 k1 hn hnc
  obtain ⟨q0, q1⟩ := QS.out w1 R0.out
  go_enter Tryd.func16, Tryd.ntmps16
  go_upto_region 1 with (fail)
  rw [← HW1.out]
  clear HW1
  by_cases ho : o = -1
  · have FST : Hid (¬ (o ≠ -1 ∧ id6 o = false)) := fun h => h.1 ho
    have HO := Lib.hid ho
    have h1 : (o != -1) = false := by simp [ho]
    have h2 : (o == -1) = true := by simp [ho]
    clear ho
    go_wp2_with fail
    refine (QF.out _ (Below.refl _ _)).mono ?_
    rintro e9 w2 ⟨rfl, hb⟩
    have R2 := Lib.hid (hb.mono (Nat.le_refl w1.heap.size))
    clear hb q0 q1
    obtain ⟨q0, q1⟩ := QS.out w2 R2.out
    obtain ⟨q, hq⟩ : ∃ q, q = qf6 xs := ⟨_, rfl⟩
    rw [← hq]
    by_cases hz : q = 0
    rotate_left
    · have hz' : (q != 0) = true := by simp [hz]
      have LQ : Hid (lf6 o xs = q) := by
        show _ = _
        unfold lf6
        rw [if_neg FST.out, if_pos (by rw [← hq]; exact hz), hq]
      clear hq
      clear hz
      go_wp2
      go_ret
      exact ⟨by rw [LQ.out]; rfl, FIN.out _ R2.out⟩
    have LQ : Hid (lf6 o xs = if (o = -1 ∧ 0 < xs.length) ∨ o ∈ xs then 9 else 0) := by
      show _ = _
      unfold lf6
      rw [if_neg FST.out, if_neg (by rw [← hq]; simp [hz])]
    subst hz
    clear hq
    rcases n with _ | n
    · have hx : xs = [] := List.length_eq_zero_iff.1 EX.out
      have hd : decide (o ∈ xs) = false := by simp [hx]
      have LZ : Hid (lf6 o xs = 0) := by show _ = _; rw [LQ.out, if_neg (by simp [hx])]
      rw [hd] at HS
      clear hd hx
      go_wp2_with fail
      refine (HS.out _ R2.out).mono ?_
      rintro e9 w3 ⟨rfl, rfl⟩
      go_wp2
      go_ret
      exact ⟨by rw [LZ.out]; rfl, FIN.out _ R2.out⟩
    · have LZ : Hid (lf6 o xs = 9) := by show _ = _; rw [LQ.out, if_pos (.inl ⟨HO.out, by rw [EX.out]; omega⟩)]
      go_wp2_with fail
      go_ret
      exact ⟨by rw [LZ.out]; rfl, FIN.out _ R2.out⟩
  · have h1 : (o != -1) = true := by simp [ho]
    have h2 : (o == -1) = false := by simp [ho]
    rcases hi : id6 o with _ | _
    · have LQ : Hid (lf6 o xs = 3) := by show _ = _; unfold lf6; rw [if_pos ⟨ho, hi⟩]
      clear ho
      go_wp2_with fail
      refine (l5Id_any _ _).mono ?_
      rintro e9 w2 ⟨rfl, rfl⟩
      rw [hi]
      go_wp2
      go_ret
      exact ⟨by rw [LQ.out]; rfl, FIN.out _ R0.out⟩
    · have FST : Hid (¬ (o ≠ -1 ∧ id6 o = false)) := fun h => by rw [hi] at h; cases h.2
      have HO := Lib.hid ho
      clear ho
      go_wp2_with fail
      refine (l5Id_any _ _).mono ?_
      rintro e9 w2 ⟨rfl, rfl⟩
      rw [hi]
      go_wp2_with fail
      refine (QF.out _ (Below.refl _ _)).mono ?_
      rintro e9 w2 ⟨rfl, hb⟩
      have R2 := Lib.hid (hb.mono (Nat.le_refl w1.heap.size))
      clear hb q0 q1
      obtain ⟨q0, q1⟩ := QS.out w2 R2.out
      obtain ⟨q, hq⟩ : ∃ q, q = qf6 xs := ⟨_, rfl⟩
      rw [← hq]
      by_cases hz : q = 0
      rotate_left
      · have hz' : (q != 0) = true := by simp [hz]
        have LQ : Hid (lf6 o xs = q) := by
          show _ = _
          unfold lf6
          rw [if_neg FST.out, if_pos (by rw [← hq]; exact hz), hq]
        clear hq
        clear hz
        go_wp2
        go_ret
        exact ⟨by rw [LQ.out]; rfl, FIN.out _ R2.out⟩
      have LQ : Hid (lf6 o xs = if (o = -1 ∧ 0 < xs.length) ∨ o ∈ xs then 9 else 0) := by
        show _ = _
        unfold lf6
        rw [if_neg FST.out, if_neg (by rw [← hq]; simp [hz])]
      subst hz
      clear hq
      by_cases hm : o ∈ xs
      · have LZ : Hid (lf6 o xs = 9) := by show _ = _; rw [LQ.out, if_pos (.inr hm)]
        have hd : decide (o ∈ xs) = true := by simpa using hm
        rw [hd] at HS
        clear hd hm
        go_wp2_with fail
        refine (HS.out _ R2.out).mono ?_
        rintro e9 w3 ⟨rfl, rfl⟩
        go_wp2
        go_ret
        exact ⟨by rw [LZ.out]; rfl, FIN.out _ R2.out⟩
      · have LZ : Hid (lf6 o xs = 0) := by
          show _ = _
          rw [LQ.out, if_neg]
          rintro (⟨h1, _⟩ | h1)
          · exact HO.out h1
          · exact hm h1
        have hd : decide (o ∈ xs) = false := by simpa using hm
        rw [hd] at HS
        clear hd hm
        go_wp2_with fail
        refine (HS.out _ R2.out).mono ?_
        rintro e9 w3 ⟨rfl, rfl⟩
        go_wp2
        go_ret
        exact ⟨by rw [LZ.out]; rfl, FIN.out _ R2.out⟩

theorem l6Asked_any (lo hi : Nat) (A : Option Addr) (n c g : Nat) (o id : Int) (xs : List Int) (w : World) (hn : n * 8 ≤ 140737488351232) (hnc : n ≤ c) (ex : xs.length = n) (h : Sl w lo hi A n (fun k => .int .i64 (gi xs k))) (hp : w.heap[g]? = some (.cells #[.int .i64 o, .slice A n c] 26 (0, 0))) :
    Calls Tryd.prog 38 #[.pointer (some ⟨g, 0, none⟩), .int .i64 id] w fun e w' => e = .returned (.int .i64 (if lf6 o xs ≠ 0 then lf6 o xs else if id6 id = false then 3 else 0)) ∧ Below w.heap.size w w' := by
  have LF := Lib.hid (specLockFault_any lo hi A n c o xs w hn hnc ex h)
  have ID := Lib.hid (l5Id_any id)
  have q0 := cell_of_row w _ 0 _ _ _ hp; have q1 := cell_of_row w _ 1 _ _ _ hp
  simp at q0 q1
  have HP := Lib.hid hp
  clear hn hnc ex h hp
  obtain ⟨r0, hr0⟩ : ∃ r, r = (if lf6 o xs ≠ 0 then lf6 o xs else if id6 id = false then 3 else 0) := ⟨_, rfl⟩
  rw [← hr0]
  have HR := Lib.hid hr0
  clear hr0
  go_enter Tryd.func38, Tryd.ntmps38
  go_wp2_with fail
  (try (refine wpList_load_row rfl 26 _ rfl g rfl _ _ _ _ HP.out Tryd.underlying26 rfl (by kernel_rfl) ?_; go_wp2_with fail))
  refine LF.out.mono ?_
  rintro e9 w2 ⟨rfl, hb⟩
  have HB := Lib.hid hb
  clear hb
  obtain ⟨q, hq⟩ : ∃ q, q = lf6 o xs := ⟨_, rfl⟩
  rw [← hq]
  have HQ := Lib.hid hq
  clear hq
  by_cases hz : q = 0
  rotate_left
  · have hz' : (q != 0) = true := by simp [hz]
    have HZ := Lib.hid hz
    clear hz
    go_wp2
    go_ret
    exact ⟨ret_i64 (by rw [HR.out, ← HQ.out, if_pos HZ.out]), HB.out⟩
  subst hz
  rcases hi : id6 id with _ | _
  · have L : Hid (r0 = 3) := by show _ = _; rw [HR.out, ← HQ.out, if_neg (by simp), if_pos hi]
    rw [hi] at ID
    go_wp2_with fail
    refine (ID.out _).mono ?_
    rintro e9 w3 ⟨rfl, rfl⟩
    go_wp2
    go_ret
    exact ⟨ret_i64 L.out.symm, HB.out⟩
  · have L : Hid (r0 = 0) := by show _ = _; rw [HR.out, ← HQ.out, if_neg (by simp), if_neg (by simp [hi])]
    rw [hi] at ID
    go_wp2_with fail
    refine (ID.out _).mono ?_
    rintro e9 w3 ⟨rfl, rfl⟩
    go_wp2
    go_ret
    exact ⟨ret_i64 L.out.symm, HB.out⟩
theorem l6Wakes_any (lo hi lo' hi' : Nat) (A B : Option Addr) (n c m d g : Nat) (o : Int) (xs ys : List Int) (w : World) (hn : n * 8 ≤ 140737488351232) (hnc : n ≤ c) (ex : xs.length = n) (h : Sl w lo hi A n (fun k => .int .i64 (gi xs k))) (hp : w.heap[g]? = some (.cells #[.int .i64 o, .slice A n c] 26 (0, 0)))
    (hm : m * 8 ≤ 140737488351232) (hmd : m ≤ d) (ey : ys.length = m) (k : Sl w lo' hi' B m (fun k => .int .i64 (gi ys k))) :
    Calls Tryd.prog 52 #[.slice B m d, .pointer (some ⟨g, 0, none⟩)] w fun e w' => e = .returned (.int .i64 (wf6 ys o xs)) ∧ Below w.heap.size w w' := by
  have QF := Lib.hid (specQueueFault_any lo' hi' B m d ys w hm hmd ey k)
  have LF : Hid (∀ W, Below w.heap.size w W → Calls Tryd.prog 16 #[.agg #[.int .i64 o, .slice A n c]] W fun e w' => e = .returned (.int .i64 (lf6 o xs)) ∧ Below W.heap.size W w') := fun W hW =>
    specLockFault_any lo (min hi w.heap.size) A n c o xs W hn hnc ex (h.lt.below hW (by omega))
  have HP : Hid (∀ W, Below w.heap.size w W → W.heap[g]? = some (.cells #[.int .i64 o, .slice A n c] 26 (0, 0))) := fun W hW => (hW.block g (Array.getElem?_eq_some_iff.1 hp).1).trans hp
  clear hn hnc ex h hp hm hmd ey k
  go_enter Tryd.func52, Tryd.ntmps52
  go_wp2_with fail
  refine QF.out.mono ?_
  rintro e9 w2 ⟨rfl, hb⟩
  have HB := Lib.hid hb
  clear hb
  obtain ⟨q, hq⟩ : ∃ q, q = qf6 ys := ⟨_, rfl⟩
  rw [← hq]
  have HQ := Lib.hid hq
  clear hq
  by_cases hz : q = 0
  rotate_left
  · have hz' : (q != 0) = true := by simp [hz]
    have HZ := Lib.hid hz
    clear hz
    go_wp2
    go_ret
    exact ⟨ret_i64 (by unfold wf6; rw [← HQ.out, if_pos HZ.out]), HB.out⟩
  subst hz
  have hp2 := HP.out _ HB.out
  have q0 := cell_of_row w2 _ 0 _ _ _ hp2; have q1 := cell_of_row w2 _ 1 _ _ _ hp2
  simp at q0 q1
  have HP2 := Lib.hid hp2
  clear hp2
  go_wp2_with fail
  (try (refine wpList_load_row rfl 26 _ rfl g rfl _ _ _ _ HP2.out Tryd.underlying26 rfl (by kernel_rfl) ?_; go_wp2_with fail))
  refine (LF.out _ HB.out).mono ?_
  rintro e9 w3 ⟨rfl, hb⟩
  have HB3 := Lib.hid (HB.out.trans (hb.mono HB.out.size))
  clear hb
  go_wp2
  go_ret
  exact ⟨ret_i64 (by unfold wf6; rw [← HQ.out, if_neg (by simp)]), HB3.out⟩

end Go.Proofs.YtachpoehejdpjaaDoor
