/-
  The program's questions on locks. No conditions beyond that the lists can be read and that the sentinels lie where they were laid.
-/
import Derived.Test.YtachpoehejdpjaaDoorImpl6a
namespace Go.Proofs.YtachpoehejdpjaaDoor
open Go.RowKit
set_option maxRecDepth 100000

set_option maxHeartbeats 2000000 in
theorem lockError_any (E : E6) (lo hi : Nat) (A : Option Addr) (n c : Nat) (o : Int) (xs : List Int) (w : World) (hE : Errs E w) (hU : Unf E w) (hn : n * 8 ≤ 140737488351232) (hnc : n ≤ c) (ex : xs.length = n) (h : Sl w lo hi A n (fun k => .int .i64 (gi xs k))) :
    Calls Tryd.prog 31 #[.agg #[.int .i64 o, .slice A n c]] w fun e w' => e = .returned (er6 E (lf6 o xs)) ∧ Below w.heap.size w w' := by
  obtain ⟨w1, hw1⟩ : ∃ w1, w1 = w.alloc (.cells #[.int .i64 o, .slice A n c] 26) := ⟨_, rfl⟩
  have k1 : w1.heap[w.heap.size]? = some (.cells #[.int .i64 o, .slice A n c] 26 (0, 0)) := by rw [hw1]; exact heap_alloc_new w _
  have B1 : Hid (Below w.heap.size w w1) := by rw [hw1]; exact below_new w _
  have Z1 : Hid (w1.heap.size = w.heap.size + 1) := by show _ = _; rw [hw1]; simp
  have QS : Hid (∀ W, Below w1.heap.size w1 W → W.cell? ⟨w.heap.size, 0, none⟩ = some (.int .i64 o) ∧ W.cell? ⟨w.heap.size, 1, none⟩ = some (.slice A n c)) := fun W hW => by
    have j := (hW.block w.heap.size (by have := Z1.out; omega)).trans k1
    exact ⟨cell_of_row W _ 0 _ _ _ j, cell_of_row W _ 1 _ _ _ j⟩
  have HL := Lib.hid h.lt
  have EX := Lib.hid ex
  have FIN : Hid (∀ W, Below w1.heap.size w1 W → Below w.heap.size w W) := fun W hW => B1.out.trans (hW.mono (by have := Z1.out; omega))
  have QF : Hid (∀ W, Below w1.heap.size w1 W → Calls Tryd.prog 50 #[.slice A n c] W fun e w' => e = .returned (er6 E (qf6 xs)) ∧ Below W.heap.size W w') := fun W hW =>
    queueError_any E lo (min hi w.heap.size) A n c xs W ((hE.below B1.out).below hW) hn hnc ex (HL.out.below (FIN.out W hW) (by omega))
  have HS : Hid (∀ W, Below w1.heap.size w1 W → Calls Tryd.prog 55 #[.slice A n c, .int .i64 o] W fun e w' => e = .returned (.bool (decide (o ∈ xs))) ∧ W = w') := fun W hW =>
    contains6_any lo (min hi w.heap.size) A n c xs o W hn ex (HL.out.below (FIN.out W hW) (by omega))
  have ES : Hid (∀ W, Below w1.heap.size w1 W → W.cell? ⟨0, 0, none⟩ = some (.iface 92 (.pointer (some E.range))) ∧ W.cell? ⟨1, 0, none⟩ = some (.iface 92 (.pointer (some E.state)))) := fun W hW =>
    ⟨(((hE.below B1.out).below hW)).range.1, (((hU.below B1.out).below hW)).state.1⟩
  clear hE hU
  have HW1 := Lib.hid hw1
  have R0 : Hid (Below w1.heap.size w1 w1) := Below.refl _ _
  clear h ex hw1 k1 hn hnc
  obtain ⟨q0, q1⟩ := QS.out w1 R0.out
  obtain ⟨g0, g1⟩ := ES.out w1 R0.out
  go_enter Tryd.func31, Tryd.ntmps31
  go_upto_region 1 with (fail)
  rw [← HW1.out]
  clear HW1
  by_cases ho : o = -1
  · have FST : Hid (¬ (o ≠ -1 ∧ id6 o = false)) := fun h => h.1 ho
    have HO := Lib.hid ho
    have h1 : (o != -1) = false := by simp [ho]
    have h2 : (o == -1) = true := by simp [ho]
    clear ho
    go_wp2_with fail
    refine (QF.out _ (Below.refl _ _)).mono ?_
    rintro e9 w2 ⟨rfl, hb⟩
    have R2 := Lib.hid (hb.mono (Nat.le_refl w1.heap.size))
    clear hb q0 q1 g0 g1
    obtain ⟨q0, q1⟩ := QS.out w2 R2.out
    obtain ⟨g0, g1⟩ := ES.out w2 R2.out
    obtain ⟨q, hq⟩ : ∃ q, q = qf6 xs := ⟨_, rfl⟩
    rw [← hq]
    by_cases hz : q = 0
    rotate_left
    · have hz' : (q != 0) = true := by simp [hz]
      have LQ : Hid (lf6 o xs = q) := by
        show _ = _
        unfold lf6
        rw [if_neg FST.out, if_pos (by rw [← hq]; exact hz), hq]
      clear hq
      rw [er6_at E hz]
      have hzz := er6_at E hz
      clear hz
      go_wp2
      go_ret
      exact ⟨by rw [LQ.out]; rw [hzz]; rfl, FIN.out _ R2.out⟩
    have LQ : Hid (lf6 o xs = if (o = -1 ∧ 0 < xs.length) ∨ o ∈ xs then 9 else 0) := by
      show _ = _
      unfold lf6
      rw [if_neg FST.out, if_neg (by rw [← hq]; simp [hz])]
    subst hz
    clear hq
    rw [er6_zero E]
    rcases n with _ | n
    · have hx : xs = [] := List.length_eq_zero_iff.1 EX.out
      have hd : decide (o ∈ xs) = false := by simp [hx]
      have LZ : Hid (lf6 o xs = 0) := by show _ = _; rw [LQ.out, if_neg (by simp [hx])]
      rw [hd] at HS
      clear hd hx
      go_wp2_with fail
      refine (HS.out _ R2.out).mono ?_
      rintro e9 w3 ⟨rfl, rfl⟩
      go_wp2
      go_ret
      exact ⟨by rw [LZ.out]; rfl, FIN.out _ R2.out⟩
    · have LZ : Hid (lf6 o xs = 9) := by show _ = _; rw [LQ.out, if_pos (.inl ⟨HO.out, by rw [EX.out]; omega⟩)]
      go_wp2_with fail
      go_ret
      exact ⟨by rw [LZ.out]; rfl, FIN.out _ R2.out⟩
  · have h1 : (o != -1) = true := by simp [ho]
    have h2 : (o == -1) = false := by simp [ho]
    rcases hi : id6 o with _ | _
    · have LQ : Hid (lf6 o xs = 3) := by show _ = _; unfold lf6; rw [if_pos ⟨ho, hi⟩]
      clear ho
      go_wp2_with fail
      refine (isThread6_any _ _).mono ?_
      rintro e9 w2 ⟨rfl, rfl⟩
      rw [hi]
      go_wp2
      go_ret
      exact ⟨by rw [LQ.out]; rfl, FIN.out _ R0.out⟩
    · have FST : Hid (¬ (o ≠ -1 ∧ id6 o = false)) := fun h => by rw [hi] at h; cases h.2
      have HO := Lib.hid ho
      clear ho
      go_wp2_with fail
      refine (isThread6_any _ _).mono ?_
      rintro e9 w2 ⟨rfl, rfl⟩
      rw [hi]
      go_wp2_with fail
      refine (QF.out _ (Below.refl _ _)).mono ?_
      rintro e9 w2 ⟨rfl, hb⟩
      have R2 := Lib.hid (hb.mono (Nat.le_refl w1.heap.size))
      clear hb q0 q1 g0 g1
      obtain ⟨q0, q1⟩ := QS.out w2 R2.out
      obtain ⟨g0, g1⟩ := ES.out w2 R2.out
      obtain ⟨q, hq⟩ : ∃ q, q = qf6 xs := ⟨_, rfl⟩
      rw [← hq]
      by_cases hz : q = 0
      rotate_left
      · have hz' : (q != 0) = true := by simp [hz]
        have LQ : Hid (lf6 o xs = q) := by
          show _ = _
          unfold lf6
          rw [if_neg FST.out, if_pos (by rw [← hq]; exact hz), hq]
        clear hq
        rw [er6_at E hz]
        have hzz := er6_at E hz
        clear hz
        go_wp2
        go_ret
        exact ⟨by rw [LQ.out]; rw [hzz]; rfl, FIN.out _ R2.out⟩
      have LQ : Hid (lf6 o xs = if (o = -1 ∧ 0 < xs.length) ∨ o ∈ xs then 9 else 0) := by
        show _ = _
        unfold lf6
        rw [if_neg FST.out, if_neg (by rw [← hq]; simp [hz])]
      subst hz
      clear hq
      rw [er6_zero E]
      by_cases hm : o ∈ xs
      · have LZ : Hid (lf6 o xs = 9) := by show _ = _; rw [LQ.out, if_pos (.inr hm)]
        have hd : decide (o ∈ xs) = true := by simpa using hm
        rw [hd] at HS
        clear hd hm
        go_wp2_with fail
        refine (HS.out _ R2.out).mono ?_
        rintro e9 w3 ⟨rfl, rfl⟩
        go_wp2
        go_ret
        exact ⟨by rw [LZ.out]; rfl, FIN.out _ R2.out⟩
      · have LZ : Hid (lf6 o xs = 0) := by
          show _ = _
          rw [LQ.out, if_neg]
          rintro (⟨h1, _⟩ | h1)
          · exact HO.out h1
          · exact hm h1
        have hd : decide (o ∈ xs) = false := by simpa using hm
        rw [hd] at HS
        clear hd hm
        go_wp2_with fail
        refine (HS.out _ R2.out).mono ?_
        rintro e9 w3 ⟨rfl, rfl⟩
        go_wp2
        go_ret
        exact ⟨by rw [LZ.out]; rfl, FIN.out _ R2.out⟩

theorem qf6_five (xs : List Int) : five6 (qf6 xs) := by
  unfold qf6 five6
  split
  · simp
  split
  · simp
  split <;> simp
theorem lf6_six (o : Int) (xs : List Int) : five6 (lf6 o xs) ∨ lf6 o xs = 9 := by
  unfold lf6
  split
  · left; unfold five6; simp
  split
  · exact .inl (qf6_five xs)
  split
  · exact .inr rfl
  · left; unfold five6; simp

theorem implQueueFault_any (E : E6) (lo hi : Nat) (A : Option Addr) (n c : Nat) (xs : List Int) (w : World) (hE : Errs E w) (hn : n * 8 ≤ 140737488351232) (hnc : n ≤ c) (ex : xs.length = n) (h : Sl w lo hi A n (fun k => .int .i64 (gi xs k))) :
    Calls Tryd.prog 26 #[.slice A n c] w fun e w' => e = .returned (.int .i64 (qf6 xs)) ∧ Below w.heap.size w w' := by
  have QE := Lib.hid (queueError_any E lo hi A n c xs w hE hn hnc ex h)
  have CO : Hid (∀ W, Below w.heap.size w W → Calls Tryd.prog 43 #[er6 E (qf6 xs)] W fun e w' => e = .returned (.int .i64 (qf6 xs)) ∧ W = w') := fun W hW =>
    codeOf_five E (qf6 xs) (qf6_five xs) W (hE.below hW)
  obtain ⟨q, hq⟩ : ∃ q, q = (qf6 xs) := ⟨_, rfl⟩
  obtain ⟨v, hv⟩ : ∃ v, v = er6 E q := ⟨_, rfl⟩
  rw [← hq] at QE CO ⊢
  rw [← hv] at QE CO
  have B1 : Hid (∀ o, Below w.heap.size w (w.alloc o)) := fun o => (Below.refl _ _).alloc (Nat.le_refl _) o
  clear hE hn hnc ex h hq hv
  go_enter Tryd.func26, Tryd.ntmps26
  go_wp2_with fail
  refine (QE.out).mono ?_
  rintro e9 w2 ⟨rfl, hb⟩
  have HB := Lib.hid hb
  clear hb
  go_wp2_with fail
  refine (CO.out _ HB.out).mono ?_
  rintro e9 w3 ⟨rfl, rfl⟩
  go_wp2
  go_ret
  exact ⟨rfl, HB.out⟩

theorem implLockFault_any (E : E6) (lo hi : Nat) (A : Option Addr) (n c : Nat) (o : Int) (xs : List Int) (w : World) (hE : Errs E w) (hU : Unf E w) (hn : n * 8 ≤ 140737488351232) (hnc : n ≤ c) (ex : xs.length = n) (h : Sl w lo hi A n (fun k => .int .i64 (gi xs k))) :
    Calls Tryd.prog 15 #[.agg #[.int .i64 o, .slice A n c]] w fun e w' => e = .returned (.int .i64 (lf6 o xs)) ∧ Below w.heap.size w w' := by
  obtain ⟨w1, hw1⟩ : ∃ w1, w1 = w.alloc (.cells #[.int .i64 o, .slice A n c] 26) := ⟨_, rfl⟩
  have k1 : Hid (w1.heap[w.heap.size]? = some (.cells #[.int .i64 o, .slice A n c] 26 (0, 0))) := by show _ = _; rw [hw1]; exact heap_alloc_new w _
  have B1 : Hid (Below w.heap.size w w1) := by rw [hw1]; exact below_new w _
  have QE : Hid (Calls Tryd.prog 31 #[.agg #[.int .i64 o, .slice A n c]] w1 fun e w' => e = .returned (er6 E (lf6 o xs)) ∧ Below w1.heap.size w1 w') :=
    lockError_any E lo (min hi w.heap.size) A n c o xs w1 (hE.below B1.out) (hU.below B1.out) hn hnc ex (h.lt.below B1.out (by omega))
  have HW1 := Lib.hid hw1
  clear hw1
  have CO : Hid (∀ W, Below w.heap.size w W → Calls Tryd.prog 43 #[er6 E (lf6 o xs)] W fun e w' => e = .returned (.int .i64 (lf6 o xs)) ∧ W = w') := fun W hW =>
    codeOf_any E (lf6 o xs) (lf6_six o xs) W (hE.below hW) (hU.below hW)
  obtain ⟨q, hq⟩ : ∃ q, q = (lf6 o xs) := ⟨_, rfl⟩
  obtain ⟨v, hv⟩ : ∃ v, v = er6 E q := ⟨_, rfl⟩
  rw [← hq] at QE CO ⊢
  rw [← hv] at QE CO
  clear hE hU hn hnc ex h hq hv
  go_enter Tryd.func15, Tryd.ntmps15
  go_upto_region 1 with (fail)
  rw [← HW1.out]
  clear HW1
  have q0 := cell_of_row w1 _ 0 _ _ _ k1.out; have q1 := cell_of_row w1 _ 1 _ _ _ k1.out
  simp at q0 q1
  go_wp2_with fail
  refine (QE.out).mono ?_
  rintro e9 w2 ⟨rfl, hb⟩
  have HB := Lib.hid (B1.out.trans (hb.mono B1.out.size))
  clear hb q0 q1
  go_wp2_with fail
  refine (CO.out _ HB.out).mono ?_
  rintro e9 w3 ⟨rfl, rfl⟩
  go_wp2
  go_ret
  exact ⟨rfl, HB.out⟩

theorem wakeError_any (E : E6) (lo hi lo' hi' : Nat) (A B : Option Addr) (n c m d : Nat) (o : Int) (xs ys : List Int) (w : World) (hE : Errs E w) (hU : Unf E w) (hn : n * 8 ≤ 140737488351232) (hnc : n ≤ c) (ex : xs.length = n) (h : Sl w lo hi A n (fun k => .int .i64 (gi xs k)))
    (hm : m * 8 ≤ 140737488351232) (hmd : m ≤ d) (ey : ys.length = m) (k : Sl w lo' hi' B m (fun k => .int .i64 (gi ys k))) :
    Calls Tryd.prog 46 #[.slice B m d, .agg #[.int .i64 o, .slice A n c]] w fun e w' => e = .returned (er6 E (wf6 ys o xs)) ∧ Below w.heap.size w w' := by
  obtain ⟨w1, hw1⟩ : ∃ w1, w1 = w.alloc (.cells #[.int .i64 o, .slice A n c] 26) := ⟨_, rfl⟩
  have k1 : w1.heap[w.heap.size]? = some (.cells #[.int .i64 o, .slice A n c] 26 (0, 0)) := by rw [hw1]; exact heap_alloc_new w _
  have B1 : Hid (Below w.heap.size w w1) := by rw [hw1]; exact below_new w _
  have Z1 : Hid (w1.heap.size = w.heap.size + 1) := by show _ = _; rw [hw1]; simp
  have QE : Hid (Calls Tryd.prog 50 #[.slice B m d] w1 fun e w' => e = .returned (er6 E (qf6 ys)) ∧ Below w1.heap.size w1 w') :=
    queueError_any E lo' (min hi' w.heap.size) B m d ys w1 (hE.below B1.out) hm hmd ey (k.lt.below B1.out (by omega))
  have LE : Hid (∀ W, Below w1.heap.size w1 W → Calls Tryd.prog 31 #[.agg #[.int .i64 o, .slice A n c]] W fun e w' => e = .returned (er6 E (lf6 o xs)) ∧ Below W.heap.size W w') := fun W hW => by
    have hB := B1.out.trans (hW.mono B1.out.size)
    exact lockError_any E lo (min hi w.heap.size) A n c o xs W (hE.below hB) (hU.below hB) hn hnc ex (h.lt.below hB (by omega))
  have QS : Hid (∀ W, Below w1.heap.size w1 W → W.cell? ⟨w.heap.size, 0, none⟩ = some (.int .i64 o) ∧ W.cell? ⟨w.heap.size, 1, none⟩ = some (.slice A n c)) := fun W hW => by
    have j := (hW.block w.heap.size (by have := Z1.out; omega)).trans k1
    exact ⟨cell_of_row W _ 0 _ _ _ j, cell_of_row W _ 1 _ _ _ j⟩
  have HW1 := Lib.hid hw1
  clear hw1 k1 hE hU hn hnc ex h hm hmd ey k
  go_enter Tryd.func46, Tryd.ntmps46
  go_upto_region 1 with (fail)
  rw [← HW1.out]
  clear HW1
  go_wp2_with fail
  refine QE.out.mono ?_
  rintro e9 w2 ⟨rfl, hb⟩
  have HB := Lib.hid hb
  clear hb
  obtain ⟨q, hq⟩ : ∃ q, q = qf6 ys := ⟨_, rfl⟩
  rw [← hq]
  have HQ := Lib.hid hq
  clear hq
  by_cases hz : q = 0
  rotate_left
  · have hzz := er6_at E hz
    have HZ := Lib.hid hz
    rw [hzz]
    have HZZ := Lib.hid hzz
    clear hzz hz
    go_wp2
    go_ret
    exact ⟨by unfold wf6; rw [← HQ.out, if_pos HZ.out, HZZ.out]; rfl, B1.out.trans (HB.out.mono B1.out.size)⟩
  subst hz
  rw [er6_zero E]
  obtain ⟨q0, q1⟩ := QS.out _ HB.out
  go_wp2_with fail
  refine (LE.out _ HB.out).mono ?_
  rintro e9 w3 ⟨rfl, hb⟩
  have HB3 := Lib.hid (HB.out.trans (hb.mono HB.out.size))
  clear hb
  go_wp2
  go_ret
  exact ⟨by unfold wf6; rw [← HQ.out, if_neg (by simp)]; rfl, B1.out.trans (HB3.out.mono B1.out.size)⟩

end Go.Proofs.YtachpoehejdpjaaDoor
