/-
  How the program meets calls, one kind: a code that is refused, or the kernel that the model makes. No conditions beyond that the call has no fault.
-/
import Derived.Test.YtlallklfilmcnaaGreatMeet3
namespace Go.Proofs.YtlallklfilmcnaaGreat
open Go.RowKit
set_option maxRecDepth 100000

set_option maxHeartbeats 16000000 in
theorem meetTake_any {g : Nat} {p : Kp} {K : Ker} {q : Value} {w : World} (h : MB w g p K q) (kk : Int) (ee : Nat) (s : Int) (to : Int) (he : ee < 4) (hn : p.n1 ≤ 12) :
    Calls Tryz.prog 119 #[.pointer (some ⟨g, 0, none⟩), .agg #[.int .i64 kk, .int .i64 (ee : Int), .int .i64 s, .int .i64 to]] w (TA (call3 K 3 ee s to) g p q w) := by
  obtain ⟨w1, hW1⟩ : ∃ w1, w1 = w.alloc (.cells #[.int .i64 kk, .int .i64 (ee : Int), .int .i64 s, .int .i64 to] 30) := ⟨_, rfl⟩
  have k1 : w1.heap[w.heap.size]? = some (.cells #[.int .i64 kk, .int .i64 (ee : Int), .int .i64 s, .int .i64 to] 30 (0, 0)) := by rw [hW1]; exact heap_alloc_new w _
  have X1 : Hid (Kept [] w w1) := by rw [hW1]; exact (Kept.refl _ _).alloc _
  have S1 : Hid (w1.heap.size = w.heap.size + 1) := by show _ = _; rw [hW1]; simp
  have M1 := Lib.hid (h.kept X1.out (by simp) (by simp) (by simp) (by simp))
  have c0 := cell_of_row w1 _ 0 _ _ _ k1
  have c1 := cell_of_row w1 _ 1 _ _ _ k1
  have c2 := cell_of_row w1 _ 2 _ _ _ k1
  have c3 := cell_of_row w1 _ 3 _ _ _ k1
  simp at c0 c1 c2 c3
  have hge : (0 : Int) ≤ (ee : Int) := by omega
  have hle : (ee : Int) < 4 := by omega
  have HL := Lib.hid h.lt
  obtain ⟨q0, q1, q2, q3, q4⟩ := M1.out.cells
  have TN : Hid ((ee : Int).toNat = ee) := Int.toNat_natCast ee
  clear h
  rcases ha : gb K.al ee with _ | _
  · have HC : Hid (call3 K 3 ee s to = (4, K)) := by show _ = _; unfold call3; rw [if_neg (by omega), TN.out, if_pos ha]
    go_enter Tryz.func119, Tryz.ntmps119
    go_upto_region 1 with (fail)
    rw [← hW1]
    clear hW1
    go_wp2_with fail
    refine (mustLive_no M1.out he ha).mono ?_
    rintro e9 w9 ⟨rfl, rfl⟩
    go_wp2
    exact ⟨rfl, by rw [HC.out]; exact .inl ⟨by show (4 : Int) ≠ 0; decide, rfl, X1.out.mono (by simp)⟩⟩
  obtain ⟨r1, hr1⟩ : ∃ r1, r1 = take1 K.os ee s := ⟨_, rfl⟩
  have HR1 := Lib.hid hr1
  clear hr1
  have HCC : Hid (call3 K 3 ee s to = lists K r1) := by show _ = _; unfold call3; rw [if_neg (by omega), TN.out, if_neg (by rw [ha]; decide), if_neg (by omega), if_pos rfl, ← HR1.out]
  have CT : Hid (∀ W, Below w1.heap.size w1 W → Calls Tryz.prog 162 #[.slice p.A1 p.n1 p.c1, .int .i64 (ee : Int), .int .i64 s] W fun e w' => ∃ A n c, e = .returned (.agg #[.int .i64 r1.1, .slice A n c]) ∧ r1.2.length = n ∧ (A = none → c = 0) ∧ Mine w' W.heap.size w'.heap.size 2 A n (fun k => .int .i64 (gi r1.2 k)) ∧ Below W.heap.size W w') := fun W hW => by
    have := implTakeSlot_any 0 w1.heap.size p.A1 p.n1 p.c1 K.os (ee : Int) s W (by omega) M1.out.own.l1 ((((M1.out.own.m1.sl.wide (Nat.zero_le _) (Nat.le_refl _)).lt).wide (Nat.le_refl _) (Nat.min_le_right _ _)).below hW (Nat.le_refl _))
    rw [← HR1.out] at this
    exact this
  by_cases hq : r1.1 = 0
  · have hq1 := hq
    have HC : Hid (call3 K 3 ee s to = (0, { K with os := r1.2 })) := by show _ = _; rw [HCC.out]; unfold lists; rw [if_neg (by simp [hq])]
    have LN := Lib.hid (show 1 ≤ K.os.length ∧ r1.2.length = K.os.length from by rw [HR1.out]; exact take1_same (by rw [← HR1.out]; exact hq))
    go_enter Tryz.func119, Tryz.ntmps119
    go_upto_region 1 with (fail)
    rw [← hW1]
    clear hW1
    go_wp2_with fail
    refine (mustLive_yes M1.out he ha).mono ?_
    rintro e9 w9 ⟨rfl, rfl⟩
    go_upto_region 2 with (fail)
    go_region_dies
    all_goals
      refine (CT.out _ (Below.drew (Below.refl _ _))).mono ?_; rintro e9 w3 ⟨A', n', c', rfl, hl, hnil, hm, hb⟩
      have M3 := Lib.hid (M1.out.kept (Kept.of_below (Below.undrew hb) []) (by simp) (by simp) (by simp) (by simp))
      have KP := Lib.hid ((X1.out.mono (gs' := [g, p.g2, p.g3]) (by simp)).then_below (Below.undrew hb))
      rw [hq1]
      go_wp2_with fail
      refine wpAny_ready (rs := [11]) (by kernel_rfl) (by simp) ?_
      refine AllReady.cons rfl (fun K0 hK0 => ?_) AllReady.nil
      go_simp
      refine (own_yes M3.out _ _ _).mono ?_
      rintro e9 w9 ⟨rfl, rfl⟩
      go_wp2_with fail
      refine wpAny_done (by kernel_rfl) ?_ _
      go_end0
      rw [HC.out]
      obtain ⟨g', z1, z2, _, z3⟩ := hm.one (by have := LN.out; omega)
      have z1 : w1.heap.size ≤ g' := z1
      have s1 := S1.out
      have lt1 := M1.out.lt1 (by have := LN.out; have := M1.out.own.l1; omega)
      have lt2 := M1.out.lt2
      have gl := M1.out.lt
      exact .inr ⟨rfl, rfl, p.withOwners A' n' c' g', (M3.out.kept ((Kept.refl [] w3).alloc _) (by simp) (by simp) (by simp) (by simp)).setOwners hl hnil (z3.below (below_new w3 _) (by omega)) (by omega) (by omega) (by omega), .inr ⟨by show w.heap.size ≤ g'; omega, by show g' < _; simp; omega⟩, rfl, rfl, (KP.out.alloc _).setCell (p := ⟨g, 0, none⟩) (by simp) _⟩
  · have hq2 : (r1.1 != 0) = true := by simp [hq]
    have HC : Hid (call3 K 3 ee s to = (r1.1, K)) := by show _ = _; rw [HCC.out]; unfold lists; rw [if_pos hq]
    go_enter Tryz.func119, Tryz.ntmps119
    go_upto_region 1 with (fail)
    rw [← hW1]
    clear hW1
    go_wp2_with fail
    refine (mustLive_yes M1.out he ha).mono ?_
    rintro e9 w9 ⟨rfl, rfl⟩
    go_upto_region 2 with (fail)
    refine wp_region_held_drew (S := fun W => (W.cell? ⟨g, 0, none⟩ = some (.slice p.A1 p.n1 p.c1) ∧ W.cell? ⟨w.heap.size, 1, none⟩ = some (.int .i64 (ee : Int)) ∧ W.cell? ⟨w.heap.size, 2, none⟩ = some (.int .i64 s))) (by kernel_rfl) (⟨q0, c1, c2⟩) (fun hHeld => ?_)
    refine wpAnyH_take (i := 0) (oi := _) (v := ?_) rfl (by kernel_rfl) (by kernel_rfl) (by kernel_rfl) (fun _ _ _ h => h) (Or.inl ⟨by rfl, ?_⟩) hHeld ?_
    rotate_left
    · (intro w hSw; (try dsimp only at hSw); go_simp; try with_reducible rfl)
    try simp only [Act.put, List.setIfInBounds_toArray, List.set_cons_zero, List.set_cons_succ]
    refine wpAnyH_take (i := 1) (oi := _) (v := ?_) rfl (by kernel_rfl) (by kernel_rfl) (by kernel_rfl) (fun _ _ _ h => h) (Or.inl ⟨by rfl, ?_⟩) hHeld ?_
    rotate_left
    · (intro w hSw; (try dsimp only at hSw); go_simp; try with_reducible rfl)
    try simp only [Act.put, List.setIfInBounds_toArray, List.set_cons_zero, List.set_cons_succ]
    refine wpAnyH_take (i := 2) (oi := _) (v := ?_) rfl (by kernel_rfl) (by kernel_rfl) (by kernel_rfl) (fun _ _ _ h => h) (Or.inl ⟨by rfl, ?_⟩) hHeld ?_
    rotate_left
    · (intro w hSw; (try dsimp only at hSw); go_simp; try with_reducible rfl)
    try simp only [Act.put, List.setIfInBounds_toArray, List.set_cons_zero, List.set_cons_succ]
    refine wpAnyH_take (i := 3) (oi := _) (v := ?_) rfl (by kernel_rfl) (by kernel_rfl) (by kernel_rfl) (fun _ _ _ h => h) (Or.inl ⟨by rfl, ?_⟩) hHeld ?_
    rotate_left
    · (intro w hSw; (try dsimp only at hSw); go_simp; try with_reducible rfl)
    try simp only [Act.put, List.setIfInBounds_toArray, List.set_cons_zero, List.set_cons_succ]
    refine wpAnyH_take (i := 4) (oi := _) (v := ?_) rfl (by kernel_rfl) (by kernel_rfl) (by kernel_rfl) (fun _ _ _ h => h) (Or.inl ⟨by rfl, ?_⟩) hHeld ?_
    rotate_left
    · (intro w hSw; (try dsimp only at hSw); go_simp; try with_reducible rfl)
    try simp only [Act.put, List.setIfInBounds_toArray, List.set_cons_zero, List.set_cons_succ]
    refine wpAnyH_take (i := 5) (oi := _) (v := ?_) rfl (by kernel_rfl) (by kernel_rfl) (by kernel_rfl) (fun _ _ _ h => h) (Or.inl ⟨by rfl, ?_⟩) hHeld ?_
    rotate_left
    · (intro w hSw; (try dsimp only at hSw); go_simp; try with_reducible rfl)
    try simp only [Act.put, List.setIfInBounds_toArray, List.set_cons_zero, List.set_cons_succ]
    refine wpAnyH_take (i := 6) (oi := _) (v := ?_) rfl (by kernel_rfl) (by kernel_rfl) (by kernel_rfl) (fun _ _ _ h => h) (Or.inl ⟨by rfl, ?_⟩) hHeld ?_
    rotate_left
    · (intro w hSw; (try dsimp only at hSw); go_simp; try with_reducible rfl)
    try simp only [Act.put, List.setIfInBounds_toArray, List.set_cons_zero, List.set_cons_succ]
    refine wpAnyH_take (i := 7) (oi := _) (v := ?_) rfl (by kernel_rfl) (by kernel_rfl) (by kernel_rfl) (fun _ _ _ h => h) (Or.inl ⟨by rfl, ?_⟩) hHeld ?_
    rotate_left
    · (intro w hSw; (try dsimp only at hSw); go_simp; try with_reducible rfl)
    try simp only [Act.put, List.setIfInBounds_toArray, List.set_cons_zero, List.set_cons_succ]
    refine wpAnyH_take (i := 8) (oi := _) (v := ?_) rfl (by kernel_rfl) (by kernel_rfl) (by kernel_rfl) (fun _ _ _ h => h) (Or.inl ⟨by rfl, ?_⟩) hHeld ?_
    rotate_left
    · (intro w hSw; (try dsimp only at hSw); go_simp; try with_reducible rfl)
    try simp only [Act.put, List.setIfInBounds_toArray, List.set_cons_zero, List.set_cons_succ]
    refine wpAnyH_take (i := 9) (oi := _) (v := ?_) rfl (by kernel_rfl) (by kernel_rfl) (by kernel_rfl) (fun _ _ _ h => h) (Or.inl ⟨by rfl, ?_⟩) hHeld ?_
    rotate_left
    · (intro w hSw; (try dsimp only at hSw); go_simp; try with_reducible rfl)
    try simp only [Act.put, List.setIfInBounds_toArray, List.set_cons_zero, List.set_cons_succ]
    refine wpAnyH_ready (rs := [10]) (by kernel_rfl) (by simp) ?_
    refine AllReadyH.cons (o := _) rfl (fun K hK => ?_) AllReadyH.nil
    go_simp
    refine (CT.out _ (Below.drew (Below.refl _ _))).mono ?_; rintro e9 w3 ⟨A', n', c', rfl, hl, hnil, hm, hb⟩; have KP := Lib.hid ((X1.out.mono (gs' := [g, p.g2, p.g3]) (by simp)).then_below (Below.undrew hb))
    go_wp2_with fail
    refine hK.out _ _ (⟨(hb.cell (p := ⟨g, 0, none⟩) (by have := S1.out; have := HL.out; show g < w1.heap.size; omega)).trans q0, (hb.cell (p := ⟨w.heap.size, 1, none⟩) (by have := S1.out; show w.heap.size < w1.heap.size; omega)).trans c1, (hb.cell (p := ⟨w.heap.size, 2, none⟩) (by have := S1.out; show w.heap.size < w1.heap.size; omega)).trans c2⟩) (fun hHeld => ?_)
    clear hK K
    try simp only [Act.put, List.setIfInBounds_toArray, List.set_cons_zero, List.set_cons_succ]
    refine wpAnyH_ready (rs := [11]) (by kernel_rfl) (by simp) ?_
    refine AllReadyH.cons (o := _) rfl (fun K hK => ?_) AllReadyH.nil
    go_simp
    refine (own_no _ r1.1 hq2 _ _ _).mono ?_; rintro e9 w9 ⟨rfl, rfl⟩
    go_wp2_with fail
    exact ⟨rfl, by rw [HC.out]; exact .inl ⟨hq, rfl, KP.out.alloc _⟩⟩

end Go.Proofs.YtlallklfilmcnaaGreat
