/-
  How the program meets calls, one kind: a code that is refused, or the kernel that the model makes. No conditions beyond that the call has no fault.
-/
import Derived.Test.YtckapndpefkcgaaGreatMeet3
import Derived.Test.YtckapndpefkcgaaGreatU8s
set_option maxHeartbeats 1000000

namespace Go.Proofs.YtckapndpefkcgaaGreat
open List renaming getElem_toArray → zz1, getElem_cons_succ → zz2, getElem_cons_zero → zz3, setIfInBounds_toArray → zz4, set_cons_zero → zz5, set_cons_succ → zz6
open Go.RowKit
set_option maxRecDepth 100000

set_option maxHeartbeats 16000000 in
theorem meetTake_any {g : Nat} {p : Kp} {K : Ker} {q : Value} {w : World} (h : MB w g p K q) (kk : Int) (ee : Nat) (s : Int) (to : Int) (he : ee < 4) (hn : p.n1 ≤ 12) :
    Calls Tryz.prog 127 #[.pointer (some ⟨g, 0, none⟩), .agg #[.int .i64 kk, .int .i64 (ee : Int), .int .i64 s, .int .i64 to]] w (TA (call3 K 3 ee s to) g p q w) := by
  obtain ⟨w1, hW1⟩ : ∃ w1, w1 = w.alloc (.cells #[.int .i64 kk, .int .i64 (ee : Int), .int .i64 s, .int .i64 to] 55) := ⟨_, rfl⟩
  have k1 : w1.heap[w.heap.size]? = some (.cells #[.int .i64 kk, .int .i64 (ee : Int), .int .i64 s, .int .i64 to] 55 (0, 0)) := by rw [hW1]; exact heap_alloc_new w _
  have X1 : Hid (Kept [] w w1) := by rw [hW1]; exact (Kept.refl _ _).alloc _
  have S1 : Hid (w1.heap.size = w.heap.size + 1) := by show _ = _; rw [hW1]; simp
  have M1 := Lib.hid (h.kept X1.out (by simp) (by simp) (by simp) (by simp))
  have c0 := cell_of_row w1 _ 0 _ _ _ k1
  have c1 := cell_of_row w1 _ 1 _ _ _ k1
  have c2 := cell_of_row w1 _ 2 _ _ _ k1
  have c3 := cell_of_row w1 _ 3 _ _ _ k1
  simp at c0 c1 c2 c3
  have hge : (0 : Int) ≤ (ee : Int) := by omega
  have hle : (ee : Int) < 4 := by omega
  have HL := Lib.hid h.lt
  obtain ⟨q0, q1, q2, q3, q4⟩ := M1.out.cells
  have TN : Hid ((ee : Int).toNat = ee) := Int.toNat_natCast ee
  clear h
  rcases ha : gb K.al ee with _ | _
  · have HC : Hid (call3 K 3 ee s to = (4, K)) := by show _ = _; unfold call3; rw [if_neg (by omega), TN.out, if_pos ha]
    go_enter Tryz.func127, Tryz.ntmps127
    go_upto_region 1 with (fail)
    rw [← hW1]
    clear hW1
    go_wp2_with fail
    refine (mustLive_no M1.out he ha).mono ?_
    rintro e9 w9 ⟨rfl, rfl⟩
    go_wp2
    exact ⟨rfl, by rw [HC.out]; exact .inl ⟨by show (4 : Int) ≠ 0; decide, rfl, X1.out.mono (by simp)⟩⟩
  obtain ⟨r1, hr1⟩ : ∃ r1, r1 = take1 K.os ee s := ⟨_, rfl⟩
  have HR1 := Lib.hid hr1
  clear hr1
  have HCC : Hid (call3 K 3 ee s to = lists K r1) := by show _ = _; unfold call3; rw [if_neg (by omega), TN.out, if_neg (by rw [ha]; decide), if_neg (by omega), if_pos rfl, ← HR1.out]
  have CT : Hid (∀ W, Below w1.heap.size w1 W → Calls Tryz.prog 159 #[.slice p.A1 p.n1 p.c1, .int .i64 (ee : Int), .int .i64 s] W fun e w' => ∃ A n c, e = .returned (.agg #[.int .i64 r1.1, .slice A n c]) ∧ r1.2.length = n ∧ (A = none → c = 0) ∧ Mine w' W.heap.size w'.heap.size 2 A n (fun k => .int .i64 (gi r1.2 k)) ∧ Below W.heap.size W w') := fun W hW => by
    have := implTakeSlot_any 0 w1.heap.size p.A1 p.n1 p.c1 K.os (ee : Int) s W (by omega) M1.out.own.l1 ((((M1.out.own.m1.sl.wide (Nat.zero_le _) (Nat.le_refl _)).lt).wide (Nat.le_refl _) (Nat.min_le_right _ _)).below hW (Nat.le_refl _))
    rw [← HR1.out] at this
    exact this
  by_cases hq : r1.1 = 0
  · have hq1 := hq
    have HC : Hid (call3 K 3 ee s to = (0, { K with os := r1.2 })) := by show _ = _; rw [HCC.out]; unfold lists; rw [if_neg (by simp [hq])]
    have LN := Lib.hid (show 1 ≤ K.os.length ∧ r1.2.length = K.os.length from by rw [HR1.out]; exact take1_same (by rw [← HR1.out]; exact hq))
    go_enter Tryz.func127, Tryz.ntmps127
    go_upto_region 1 with (fail)
    rw [← hW1]
    clear hW1
    go_wp2_with fail
    refine (mustLive_yes M1.out he ha).mono ?_
    rintro e9 w9 ⟨rfl, rfl⟩
    go_upto_region 2 with (fail)
    go_region_dies
    all_goals
      refine (CT.out _ (Below.drew (Below.refl _ _))).mono ?_; rintro e9 w3 ⟨A', n', c', rfl, hl, hnil, hm, hb⟩
      have M3 := Lib.hid (M1.out.kept (Kept.of_below (Below.undrew hb) []) (by simp) (by simp) (by simp) (by simp))
      have KP := Lib.hid ((X1.out.mono (gs' := [g, p.g2, p.g3]) (by simp)).then_below (Below.undrew hb))
      rw [hq1]
      go_wp2_with fail
      refine wpAny_ready (rs := [11]) (by kernel_rfl) (by simp) ?_
      refine AllReady.cons rfl (fun K0 hK0 => ?_) AllReady.nil
      go_simp
      refine (own_yes M3.out _ _ _).mono ?_
      rintro e9 w9 ⟨rfl, rfl⟩
      go_wp2_with fail
      refine wpAny_done (by kernel_rfl) ?_ _
      go_end0
      rw [HC.out]
      obtain ⟨g', z1, z2, _, z3⟩ := hm.one (by have := LN.out; omega)
      have z1 : w1.heap.size ≤ g' := z1
      have s1 := S1.out
      have lt1 := M1.out.lt1 (by have := LN.out; have := M1.out.own.l1; omega)
      have lt2 := M1.out.lt2
      have gl := M1.out.lt
      exact .inr ⟨rfl, rfl, p.withOwners A' n' c' g', (M3.out.kept ((Kept.refl [] w3).alloc _) (by simp) (by simp) (by simp) (by simp)).setOwners hl hnil (z3.below (below_new w3 _) (by omega)) (by omega) (by omega) (by omega), .inr ⟨by show w.heap.size ≤ g'; omega, by show g' < _; simp; omega⟩, rfl, rfl, (KP.out.alloc _).setCell (p := ⟨g, 0, none⟩) (by simp) _⟩
  · have hq2 : (r1.1 != 0) = true := by simp [hq]
    have HC : Hid (call3 K 3 ee s to = (r1.1, K)) := by show _ = _; rw [HCC.out]; unfold lists; rw [if_pos hq]
    go_enter Tryz.func127, Tryz.ntmps127
    go_upto_region 1 with (fail)
    rw [← hW1]
    clear hW1
    go_wp2_with fail
    refine (mustLive_yes M1.out he ha).mono ?_
    rintro e9 w9 ⟨rfl, rfl⟩
    go_upto_region 2 with (fail)
    refine wp_region_held_drew (S := fun W => (W.cell? ⟨g, 0, none⟩ = some (.slice p.A1 p.n1 p.c1) ∧ W.cell? ⟨w.heap.size, 1, none⟩ = some (.int .i64 (ee : Int)) ∧ W.cell? ⟨w.heap.size, 2, none⟩ = some (.int .i64 s))) (by kernel_rfl) (⟨q0, c1, c2⟩) (fun hHeld => ?_)
    refine tkH 0 ?_ rfl ?_ hHeld ?_; rotate_left; (intro w hSw; (try dsimp only at hSw); go_simp; try with_reducible rfl); try simp only [Act.put, zz4, zz5, zz6]
    refine tkH 1 ?_ rfl ?_ hHeld ?_; rotate_left; (intro w hSw; (try dsimp only at hSw); go_simp; try with_reducible rfl); try simp only [Act.put, zz4, zz5, zz6]
    refine tkH 2 ?_ rfl ?_ hHeld ?_; rotate_left; (intro w hSw; (try dsimp only at hSw); go_simp; try with_reducible rfl); try simp only [Act.put, zz4, zz5, zz6]
    refine tkH 3 ?_ rfl ?_ hHeld ?_; rotate_left; (intro w hSw; (try dsimp only at hSw); go_simp; try with_reducible rfl); try simp only [Act.put, zz4, zz5, zz6]
    refine tkH 4 ?_ rfl ?_ hHeld ?_; rotate_left; (intro w hSw; (try dsimp only at hSw); go_simp; try with_reducible rfl); try simp only [Act.put, zz4, zz5, zz6]
    refine tkH 5 ?_ rfl ?_ hHeld ?_; rotate_left; (intro w hSw; (try dsimp only at hSw); go_simp; try with_reducible rfl); try simp only [Act.put, zz4, zz5, zz6]
    refine tkH 6 ?_ rfl ?_ hHeld ?_; rotate_left; (intro w hSw; (try dsimp only at hSw); go_simp; try with_reducible rfl); try simp only [Act.put, zz4, zz5, zz6]
    refine tkH 7 ?_ rfl ?_ hHeld ?_; rotate_left; (intro w hSw; (try dsimp only at hSw); go_simp; try with_reducible rfl); try simp only [Act.put, zz4, zz5, zz6]
    refine tkH 8 ?_ rfl ?_ hHeld ?_; rotate_left; (intro w hSw; (try dsimp only at hSw); go_simp; try with_reducible rfl); try simp only [Act.put, zz4, zz5, zz6]
    refine tkH 9 ?_ rfl ?_ hHeld ?_; rotate_left; (intro w hSw; (try dsimp only at hSw); go_simp; try with_reducible rfl); try simp only [Act.put, zz4, zz5, zz6]
    refine wpAnyH_ready (rs := [10]) (by kernel_rfl) (by simp) ?_
    refine AllReadyH.cons (o := _) rfl (fun K hK => ?_) AllReadyH.nil
    go_simp
    refine (CT.out _ (Below.drew (Below.refl _ _))).mono ?_; rintro e9 w3 ⟨A', n', c', rfl, hl, hnil, hm, hb⟩; have KP := Lib.hid ((X1.out.mono (gs' := [g, p.g2, p.g3]) (by simp)).then_below (Below.undrew hb))
    go_wp2_with fail
    refine hK.out _ _ (⟨(hb.cell (p := ⟨g, 0, none⟩) (by have := S1.out; have := HL.out; show g < w1.heap.size; omega)).trans q0, (hb.cell (p := ⟨w.heap.size, 1, none⟩) (by have := S1.out; show w.heap.size < w1.heap.size; omega)).trans c1, (hb.cell (p := ⟨w.heap.size, 2, none⟩) (by have := S1.out; show w.heap.size < w1.heap.size; omega)).trans c2⟩) (fun hHeld => ?_)
    clear hK K
    try simp only [Act.put, zz4, zz5, zz6]
    refine wpAnyH_ready (rs := [11]) (by kernel_rfl) (by simp) ?_
    refine AllReadyH.cons (o := _) rfl (fun K hK => ?_) AllReadyH.nil
    go_simp
    refine (own_no _ r1.1 hq2 _ _ _).mono ?_; rintro e9 w9 ⟨rfl, rfl⟩
    go_wp2_with fail
    exact ⟨rfl, by rw [HC.out]; exact .inl ⟨hq, rfl, KP.out.alloc _⟩⟩



set_option maxHeartbeats 16000000 in
theorem meetFree_any {g : Nat} {p : Kp} {K : Ker} {q : Value} {w : World} (h : MB w g p K q) (kk : Int) (ee : Nat) (s : Int) (to : Int) (he : ee < 4) (hn : p.n1 ≤ 12) :
    Calls Tryz.prog 128 #[.pointer (some ⟨g, 0, none⟩), .agg #[.int .i64 kk, .int .i64 (ee : Int), .int .i64 s, .int .i64 to]] w (TA (call3 K 4 ee s to) g p q w) := by
  obtain ⟨w1, hW1⟩ : ∃ w1, w1 = w.alloc (.cells #[.int .i64 kk, .int .i64 (ee : Int), .int .i64 s, .int .i64 to] 55) := ⟨_, rfl⟩
  have k1 : w1.heap[w.heap.size]? = some (.cells #[.int .i64 kk, .int .i64 (ee : Int), .int .i64 s, .int .i64 to] 55 (0, 0)) := by rw [hW1]; exact heap_alloc_new w _
  have X1 : Hid (Kept [] w w1) := by rw [hW1]; exact (Kept.refl _ _).alloc _
  have S1 : Hid (w1.heap.size = w.heap.size + 1) := by show _ = _; rw [hW1]; simp
  have M1 := Lib.hid (h.kept X1.out (by simp) (by simp) (by simp) (by simp))
  have c0 := cell_of_row w1 _ 0 _ _ _ k1
  have c1 := cell_of_row w1 _ 1 _ _ _ k1
  have c2 := cell_of_row w1 _ 2 _ _ _ k1
  have c3 := cell_of_row w1 _ 3 _ _ _ k1
  simp at c0 c1 c2 c3
  have hge : (0 : Int) ≤ (ee : Int) := by omega
  have hle : (ee : Int) < 4 := by omega
  have HL := Lib.hid h.lt
  obtain ⟨q0, q1, q2, q3, q4⟩ := M1.out.cells
  have TN : Hid ((ee : Int).toNat = ee) := Int.toNat_natCast ee
  clear h
  rcases ha : gb K.al ee with _ | _
  · have HC : Hid (call3 K 4 ee s to = (4, K)) := by show _ = _; unfold call3; rw [if_neg (by omega), TN.out, if_pos ha]
    go_enter Tryz.func128, Tryz.ntmps128
    go_upto_region 1 with (fail)
    rw [← hW1]
    clear hW1
    go_wp2_with fail
    refine (mustLive_no M1.out he ha).mono ?_
    rintro e9 w9 ⟨rfl, rfl⟩
    go_wp2
    exact ⟨rfl, by rw [HC.out]; exact .inl ⟨by show (4 : Int) ≠ 0; decide, rfl, X1.out.mono (by simp)⟩⟩
  obtain ⟨r1, hr1⟩ : ∃ r1, r1 = free1 K.os ee s := ⟨_, rfl⟩
  have HR1 := Lib.hid hr1
  clear hr1
  have HCC : Hid (call3 K 4 ee s to = lists K r1) := by show _ = _; unfold call3; rw [if_neg (by omega), TN.out, if_neg (by rw [ha]; decide), if_neg (by omega), if_neg (by omega), if_pos rfl, ← HR1.out]
  have CT : Hid (∀ W, Below w1.heap.size w1 W → Calls Tryz.prog 160 #[.slice p.A1 p.n1 p.c1, .int .i64 (ee : Int), .int .i64 s] W fun e w' => ∃ A n c, e = .returned (.agg #[.int .i64 r1.1, .slice A n c]) ∧ r1.2.length = n ∧ (A = none → c = 0) ∧ Mine w' W.heap.size w'.heap.size 2 A n (fun k => .int .i64 (gi r1.2 k)) ∧ Below W.heap.size W w') := fun W hW => by
    have := implFreeSlot_any 0 w1.heap.size p.A1 p.n1 p.c1 K.os (ee : Int) s W (by omega) M1.out.own.l1 ((((M1.out.own.m1.sl.wide (Nat.zero_le _) (Nat.le_refl _)).lt).wide (Nat.le_refl _) (Nat.min_le_right _ _)).below hW (Nat.le_refl _))
    rw [← HR1.out] at this
    exact this
  by_cases hq : r1.1 = 0
  · have hq1 := hq
    have HC : Hid (call3 K 4 ee s to = (0, { K with os := r1.2 })) := by show _ = _; rw [HCC.out]; unfold lists; rw [if_neg (by simp [hq])]
    have LN := Lib.hid (show 1 ≤ K.os.length ∧ r1.2.length = K.os.length from by rw [HR1.out]; exact free1_same (by rw [← HR1.out]; exact hq))
    go_enter Tryz.func128, Tryz.ntmps128
    go_upto_region 1 with (fail)
    rw [← hW1]
    clear hW1
    go_wp2_with fail
    refine (mustLive_yes M1.out he ha).mono ?_
    rintro e9 w9 ⟨rfl, rfl⟩
    go_upto_region 2 with (fail)
    go_region_dies
    all_goals
      refine (CT.out _ (Below.drew (Below.refl _ _))).mono ?_; rintro e9 w3 ⟨A', n', c', rfl, hl, hnil, hm, hb⟩
      have M3 := Lib.hid (M1.out.kept (Kept.of_below (Below.undrew hb) []) (by simp) (by simp) (by simp) (by simp))
      have KP := Lib.hid ((X1.out.mono (gs' := [g, p.g2, p.g3]) (by simp)).then_below (Below.undrew hb))
      rw [hq1]
      go_wp2_with fail
      refine wpAny_ready (rs := [11]) (by kernel_rfl) (by simp) ?_
      refine AllReady.cons rfl (fun K0 hK0 => ?_) AllReady.nil
      go_simp
      refine (own_yes M3.out _ _ _).mono ?_
      rintro e9 w9 ⟨rfl, rfl⟩
      go_wp2_with fail
      refine wpAny_done (by kernel_rfl) ?_ _
      go_end0
      rw [HC.out]
      obtain ⟨g', z1, z2, _, z3⟩ := hm.one (by have := LN.out; omega)
      have z1 : w1.heap.size ≤ g' := z1
      have s1 := S1.out
      have lt1 := M1.out.lt1 (by have := LN.out; have := M1.out.own.l1; omega)
      have lt2 := M1.out.lt2
      have gl := M1.out.lt
      exact .inr ⟨rfl, rfl, p.withOwners A' n' c' g', (M3.out.kept ((Kept.refl [] w3).alloc _) (by simp) (by simp) (by simp) (by simp)).setOwners hl hnil (z3.below (below_new w3 _) (by omega)) (by omega) (by omega) (by omega), .inr ⟨by show w.heap.size ≤ g'; omega, by show g' < _; simp; omega⟩, rfl, rfl, (KP.out.alloc _).setCell (p := ⟨g, 0, none⟩) (by simp) _⟩
  · have hq2 : (r1.1 != 0) = true := by simp [hq]
    have HC : Hid (call3 K 4 ee s to = (r1.1, K)) := by show _ = _; rw [HCC.out]; unfold lists; rw [if_pos hq]
    go_enter Tryz.func128, Tryz.ntmps128
    go_upto_region 1 with (fail)
    rw [← hW1]
    clear hW1
    go_wp2_with fail
    refine (mustLive_yes M1.out he ha).mono ?_
    rintro e9 w9 ⟨rfl, rfl⟩
    go_upto_region 2 with (fail)
    refine wp_region_held_drew (S := fun W => (W.cell? ⟨g, 0, none⟩ = some (.slice p.A1 p.n1 p.c1) ∧ W.cell? ⟨w.heap.size, 1, none⟩ = some (.int .i64 (ee : Int)) ∧ W.cell? ⟨w.heap.size, 2, none⟩ = some (.int .i64 s))) (by kernel_rfl) (⟨q0, c1, c2⟩) (fun hHeld => ?_)
    refine tkH 0 ?_ rfl ?_ hHeld ?_; rotate_left; (intro w hSw; (try dsimp only at hSw); go_simp; try with_reducible rfl); try simp only [Act.put, zz4, zz5, zz6]
    refine tkH 1 ?_ rfl ?_ hHeld ?_; rotate_left; (intro w hSw; (try dsimp only at hSw); go_simp; try with_reducible rfl); try simp only [Act.put, zz4, zz5, zz6]
    refine tkH 2 ?_ rfl ?_ hHeld ?_; rotate_left; (intro w hSw; (try dsimp only at hSw); go_simp; try with_reducible rfl); try simp only [Act.put, zz4, zz5, zz6]
    refine tkH 3 ?_ rfl ?_ hHeld ?_; rotate_left; (intro w hSw; (try dsimp only at hSw); go_simp; try with_reducible rfl); try simp only [Act.put, zz4, zz5, zz6]
    refine tkH 4 ?_ rfl ?_ hHeld ?_; rotate_left; (intro w hSw; (try dsimp only at hSw); go_simp; try with_reducible rfl); try simp only [Act.put, zz4, zz5, zz6]
    refine tkH 5 ?_ rfl ?_ hHeld ?_; rotate_left; (intro w hSw; (try dsimp only at hSw); go_simp; try with_reducible rfl); try simp only [Act.put, zz4, zz5, zz6]
    refine tkH 6 ?_ rfl ?_ hHeld ?_; rotate_left; (intro w hSw; (try dsimp only at hSw); go_simp; try with_reducible rfl); try simp only [Act.put, zz4, zz5, zz6]
    refine tkH 7 ?_ rfl ?_ hHeld ?_; rotate_left; (intro w hSw; (try dsimp only at hSw); go_simp; try with_reducible rfl); try simp only [Act.put, zz4, zz5, zz6]
    refine tkH 8 ?_ rfl ?_ hHeld ?_; rotate_left; (intro w hSw; (try dsimp only at hSw); go_simp; try with_reducible rfl); try simp only [Act.put, zz4, zz5, zz6]
    refine tkH 9 ?_ rfl ?_ hHeld ?_; rotate_left; (intro w hSw; (try dsimp only at hSw); go_simp; try with_reducible rfl); try simp only [Act.put, zz4, zz5, zz6]
    refine wpAnyH_ready (rs := [10]) (by kernel_rfl) (by simp) ?_
    refine AllReadyH.cons (o := _) rfl (fun K hK => ?_) AllReadyH.nil
    go_simp
    refine (CT.out _ (Below.drew (Below.refl _ _))).mono ?_; rintro e9 w3 ⟨A', n', c', rfl, hl, hnil, hm, hb⟩; have KP := Lib.hid ((X1.out.mono (gs' := [g, p.g2, p.g3]) (by simp)).then_below (Below.undrew hb))
    go_wp2_with fail
    refine hK.out _ _ (⟨(hb.cell (p := ⟨g, 0, none⟩) (by have := S1.out; have := HL.out; show g < w1.heap.size; omega)).trans q0, (hb.cell (p := ⟨w.heap.size, 1, none⟩) (by have := S1.out; show w.heap.size < w1.heap.size; omega)).trans c1, (hb.cell (p := ⟨w.heap.size, 2, none⟩) (by have := S1.out; show w.heap.size < w1.heap.size; omega)).trans c2⟩) (fun hHeld => ?_)
    clear hK K
    try simp only [Act.put, zz4, zz5, zz6]
    refine wpAnyH_ready (rs := [11]) (by kernel_rfl) (by simp) ?_
    refine AllReadyH.cons (o := _) rfl (fun K hK => ?_) AllReadyH.nil
    go_simp
    refine (own_no _ r1.1 hq2 _ _ _).mono ?_; rintro e9 w9 ⟨rfl, rfl⟩
    go_wp2_with fail
    exact ⟨rfl, by rw [HC.out]; exact .inl ⟨hq, rfl, KP.out.alloc _⟩⟩



set_option maxHeartbeats 16000000 in
theorem meetDestroy_any {g : Nat} {p : Kp} {K : Ker} {q : Value} {w : World} (h : MB w g p K q) (kk : Int) (ee : Nat) (s to : Int) (he : ee < 4) (hv : vf K.os = 0) :
    Calls Tryz.prog 126 #[.pointer (some ⟨g, 0, none⟩), .agg #[.int .i64 kk, .int .i64 (ee : Int), .int .i64 s, .int .i64 to]] w (TA (call3 K 2 ee s to) g p q w) := by
  have lg := h.lt
  have lg2 := h.lt2
  obtain ⟨w1, hW1⟩ : ∃ w1, w1 = w.alloc (.cells #[.int .i64 kk, .int .i64 (ee : Int), .int .i64 s, .int .i64 to] 55) := ⟨_, rfl⟩
  have k1 : w1.heap[w.heap.size]? = some (.cells #[.int .i64 kk, .int .i64 (ee : Int), .int .i64 s, .int .i64 to] 55 (0, 0)) := by rw [hW1]; exact heap_alloc_new w _
  have X1 : Hid (Kept [] w w1) := by rw [hW1]; exact (Kept.refl _ _).alloc _
  have S1 : Hid (w1.heap.size = w.heap.size + 1) := by show _ = _; rw [hW1]; simp
  have M1 := Lib.hid (h.kept X1.out (by simp) (by simp) (by simp) (by simp))
  have c0 := cell_of_row w1 _ 0 _ _ _ k1
  have c1 := cell_of_row w1 _ 1 _ _ _ k1
  have c2 := cell_of_row w1 _ 2 _ _ _ k1
  have c3 := cell_of_row w1 _ 3 _ _ _ k1
  simp at c0 c1 c2 c3
  have hge : (0 : Int) ≤ (ee : Int) := by omega
  have hle : (ee : Int) < 4 := by omega
  have HL := Lib.hid h.lt
  obtain ⟨q0, q1, q2, q3, q4⟩ := M1.out.cells
  have TN : Hid ((ee : Int).toNat = ee) := Int.toNat_natCast ee
  obtain ⟨v1, v2, _, _⟩ := vf_zero hv
  have hn : p.n1 ≤ 12 := by have := h.own.l1; omega
  have V1 := Lib.hid v1
  clear h
  rcases ha : gb K.al ee with _ | _
  · have HC : Hid (call3 K 2 ee s to = (4, K)) := by show _ = _; unfold call3; rw [if_neg (by omega), TN.out, if_pos ha]
    go_enter Tryz.func126, Tryz.ntmps126
    go_upto_region 1 with (fail)
    rw [← hW1]
    clear hW1
    go_wp2_with fail
    refine (mustLive_no M1.out he ha).mono ?_
    rintro e9 w9 ⟨rfl, rfl⟩
    go_wp2
    exact ⟨rfl, by rw [HC.out]; exact .inl ⟨by show (4 : Int) ≠ 0; decide, rfl, X1.out.mono (by simp)⟩⟩
  obtain ⟨r1, hr1⟩ : ∃ r1, r1 = drop1 K.os (ee : Int) := ⟨_, rfl⟩
  have HR1 := Lib.hid hr1
  have hq1 : r1.1 = 0 := by
    rw [hr1]; unfold drop1
    rw [if_neg (by rw [ef_of hv (by simp; omega)]; simp)]
  have LN : Hid (1 ≤ r1.2.length) := by
    show _ ≤ _
    rw [hr1]; unfold drop1
    rw [if_neg (by rw [ef_of hv (by simp; omega)]; simp)]
    simp
    have := (vf_zero hv).1
    omega
  clear hr1
  have HC : Hid (call3 K 2 ee s to = (0, { K with os := r1.2, al := K.al.set ee false, ac := setAcc K.ac ee 0 0 0 0, run := if K.run = (ee : Int) then -1 else K.run })) := by
    show _ = _
    unfold call3
    rw [if_neg (by omega), TN.out, if_neg (by rw [ha]; decide), if_pos rfl, ← HR1.out, zac_eq]
  have CT : Hid (∀ W, Below w1.heap.size w1 W → Calls Tryz.prog 158 #[.slice p.A1 p.n1 p.c1, .int .i64 (ee : Int)] W fun e w' => ∃ A n c, e = .returned (.agg #[.int .i64 r1.1, .slice A n c]) ∧ r1.2.length = n ∧ (A = none → c = 0) ∧ Mine w' W.heap.size w'.heap.size 2 A n (fun k => .int .i64 (gi r1.2 k)) ∧ Below W.heap.size W w') := fun W hW => by
    have := implDropSlots_any 0 w1.heap.size p.A1 p.n1 p.c1 K.os (ee : Int) W (by omega) M1.out.own.l1 ((((M1.out.own.m1.sl.wide (Nat.zero_le _) (Nat.le_refl _)).lt).wide (Nat.le_refl _) (Nat.min_le_right _ _)).below hW (Nat.le_refl _))
    rw [← HR1.out] at this
    exact this
  have HRUN : Hid (K.run = (ee : Int) ∨ K.run ≠ (ee : Int)) := by by_cases h : K.run = (ee : Int); exact .inl h; exact .inr h
  have HA := Lib.hid ha
  go_enter Tryz.func126, Tryz.ntmps126
  go_upto_region 1 with (fail)
  rw [← hW1]
  clear hW1
  go_wp2_with fail
  refine (mustLive_yes M1.out he ha).mono ?_
  rintro e9 w9 ⟨rfl, rfl⟩
  go_upto_region 2 with (fail)
  clear ha hv
  go_cut [3] from 4 (fun x wx => x = .pointer (some ⟨w.heap.size, 0, none⟩) ∧ ∃ p2 : Kp, MB wx g p2 { K with os := r1.2 } q ∧ (w.heap.size ≤ p2.g1 ∧ p2.g1 < wx.heap.size) ∧ p2.g2 = p.g2 ∧ p2.g3 = p.g3 ∧ Kept [g, p.g2, p.g3] w wx ∧ wx.cell? ⟨w.heap.size, 1, none⟩ = some (.int .i64 (ee : Int)) ∧ w.heap.size < wx.heap.size)
  case first => as_aux_lemma =>
    go_region_dies
    all_goals
      refine (CT.out _ (Below.drew (Below.refl _ _))).mono ?_; rintro e9 w3 ⟨A', n', c', rfl, hl, hnil, hm, hb⟩
      have M3 := Lib.hid (M1.out.kept (Kept.of_below (Below.undrew hb) []) (by simp) (by simp) (by simp) (by simp))
      have KP := Lib.hid ((X1.out.mono (gs' := [g, p.g2, p.g3]) (by simp)).then_below (Below.undrew hb))
      have C3 := Lib.hid ((Below.undrew hb).cell (p := ⟨w.heap.size, 1, none⟩) (by have := S1.out; show w.heap.size < w1.heap.size; omega) |>.trans c1)
      rw [hq1]
      go_wp2_with fail
      refine wpAny_ready (rs := [9]) (by kernel_rfl) (by simp) ?_
      refine AllReady.cons rfl (fun K0 hK0 => ?_) AllReady.nil
      go_simp
      refine (own_yes M3.out _ _ _).mono ?_
      rintro e9 w9 ⟨rfl, rfl⟩
      go_wp2_with fail
      refine wpAny_done (by kernel_rfl) ?_ _
      go_wp2_with fail
      go_meet
      obtain ⟨g', z1, z2, _, z3⟩ := hm.one (by have := LN.out; omega)
      have z1 : w1.heap.size ≤ g' := z1
      have s1 := S1.out
      have lt1 := M1.out.lt1 (by have := V1.out; have := M1.out.own.l1; omega)
      have lt2 := M1.out.lt2
      have hz := (Below.undrew hb).size
      exact ⟨rfl, p.withOwners A' n' c' g', (M3.out.kept ((Kept.refl [] w3).alloc _) (by simp) (by simp) (by simp) (by simp)).setOwners hl hnil (z3.below (below_new w3 _) (by omega)) (by omega) (by omega) (by omega), ⟨by show w.heap.size ≤ g'; omega, by show g' < _; simp; omega⟩, rfl, rfl, (KP.out.alloc _).setCell (p := ⟨g, 0, none⟩) (by simp) _,
        (World.cell?_of_block (a := ⟨w.heap.size, 1, none⟩) ((Below.heap_setCell _ ⟨g, 0, none⟩ _ _ (by show w.heap.size ≠ g; omega)).trans (Below.heap_alloc _ _ _ (by show w.heap.size < w3.heap.size; omega)))).trans C3.out, by simp; omega⟩
  case rest =>
    obtain ⟨rfl, p2, hm, hg1, e2, e3, hk, c1, lw⟩ := hcut
    obtain ⟨o2, hA2, hR2⟩ := hm.alive
    obtain ⟨q0, q1, q2, q3, q4⟩ := hm.cells
    rw [hA2] at q1
    rw [e2] at q1 hR2 hA2
    have a0 := hR2.cell (k := ee) he
    have y0 := hR2.frozen (o2 + ee)
    have HM := Lib.hid hm; have HK := Lib.hid hk; have HG1 := Lib.hid hg1
    have E2 := Lib.hid e2; have E3 := Lib.hid e3
    clear hm hk hR2 hg1 e2 e3
    go_upto_region 3 with (fail)
    first | go_region | fail
    obtain ⟨wa, hwa⟩ : ∃ wa, wa = (wc.setCell ⟨p.g2, o2 + ee, none⟩ (.bool false)).drew := ⟨_, rfl⟩
    rw [← hwa]
    have Mwa : Hid (MB wa g p2 { K with os := r1.2, al := K.al.set ee false } q) := by rw [hwa]; exact ((by have := HM.out.setAlive (e := ee) (by rw [E2.out]; exact hA2) he false; rw [E2.out] at this; exact this : MB (wc.setCell ⟨p.g2, o2 + ee, none⟩ (.bool false)) g p2 { K with os := r1.2, al := K.al.set ee false } q)).drew
    have Kwa : Hid (Kept [g, p.g2, p.g3] w wa) := by rw [hwa]; exact (HK.out.setCell (p := ⟨p.g2, o2 + ee, none⟩) (by simp) _).drew
    have swa : wa.heap.size = wc.heap.size := by rw [hwa]; exact (show (wc.setCell ⟨p.g2, o2 + ee, none⟩ (.bool false)).heap.size = wc.heap.size by simp)
    have c1 : wa.cell? ⟨w.heap.size, 1, none⟩ = some (.int .i64 (ee : Int)) := (World.cell?_of_block (a := ⟨w.heap.size, 1, none⟩) (by rw [hwa]; exact Below.heap_setCell wc ⟨p.g2, o2 + ee, none⟩ _ _ (by show w.heap.size ≠ p.g2; omega))).trans c1
    obtain ⟨q0, q1, q2, q3, q4⟩ := Mwa.out.cells
    clear hwa hA2 y0 a0
    obtain ⟨o3, hA3, r3⟩ := Mwa.out.accs
    rw [hA3, E3.out] at q2
    rw [E3.out] at r3 hA3
    have d0 : wa.cell? ⟨p.g3, o3 + ee * 4, none⟩ = some (.int .i64 (gi K.ac (ee * 4))) := r3.cell (show ee * 4 < 16 by omega)
    have d1 : wa.cell? ⟨p.g3, o3 + ee * 4 + 1, none⟩ = some (.int .i64 (gi K.ac (ee * 4 + 1))) := r3.cell (show ee * 4 + 1 < 16 by omega)
    have d4 : wa.cell? ⟨p.g3, o3 + ee * 4 + 2, none⟩ = some (.int .i64 (gi K.ac (ee * 4 + 2))) := r3.cell (show ee * 4 + 2 < 16 by omega)
    have d5 : wa.cell? ⟨p.g3, o3 + ee * 4 + 3, none⟩ = some (.int .i64 (gi K.ac (ee * 4 + 3))) := r3.cell (show ee * 4 + 3 < 16 by omega)
    have y0 := r3.frozen (o3 + ee * 4)
    have y1 := r3.frozen (o3 + ee * 4 + 1)
    have y2 := r3.frozen (o3 + ee * 4 + 2)
    have y3 := r3.frozen (o3 + ee * 4 + 3)
    clear r3
    have lw2 := Lib.hid lw
    go_upto_region 4 with (fail)
    first | go_region | fail
    obtain ⟨wz, hwz⟩ : ∃ wz, wz = ((((wa.setCell ⟨p.g3, o3 + ee * 4, none⟩ (.int .i64 0)).setCell ⟨p.g3, o3 + ee * 4 + 1, none⟩ (.int .i64 0)).setCell ⟨p.g3, o3 + ee * 4 + 2, none⟩ (.int .i64 0)).setCell ⟨p.g3, o3 + ee * 4 + 3, none⟩ (.int .i64 0)).drew := ⟨_, rfl⟩
    rw [← hwz]
    have Mwz : Hid (MB wz g p2 { K with os := r1.2, al := K.al.set ee false, ac := setAcc K.ac ee 0 0 0 0 } q) := by rw [hwz]; exact ((by have := Mwa.out.setAccount (e := ee) (by rw [E3.out]; exact hA3) he 0 0 0 0; rw [E3.out] at this; exact this : MB _ g p2 { K with os := r1.2, al := K.al.set ee false, ac := setAcc K.ac ee 0 0 0 0 } q)).drew
    have Kwz : Hid (Kept [g, p.g2, p.g3] w wz) := by rw [hwz]; exact (Kwa.out.set4 (by simp) _ _ _ _).drew
    have swz : wz.heap.size = wa.heap.size := by rw [hwz]; exact (show ((((wa.setCell ⟨p.g3, o3 + ee * 4, none⟩ (.int .i64 0)).setCell ⟨p.g3, o3 + ee * 4 + 1, none⟩ (.int .i64 0)).setCell ⟨p.g3, o3 + ee * 4 + 2, none⟩ (.int .i64 0)).setCell ⟨p.g3, o3 + ee * 4 + 3, none⟩ (.int .i64 0)).heap.size = wa.heap.size by simp)
    have c1 : wz.cell? ⟨w.heap.size, 1, none⟩ = some (.int .i64 (ee : Int)) := (World.cell?_of_block (a := ⟨w.heap.size, 1, none⟩) (by rw [hwz]; exact ((Below.heap_setCell _ ⟨p.g3, _, none⟩ _ _ (by show w.heap.size ≠ p.g3; omega)).trans ((Below.heap_setCell _ ⟨p.g3, _, none⟩ _ _ (by show w.heap.size ≠ p.g3; omega)).trans ((Below.heap_setCell _ ⟨p.g3, _, none⟩ _ _ (by show w.heap.size ≠ p.g3; omega)).trans (Below.heap_setCell _ ⟨p.g3, _, none⟩ _ _ (by show w.heap.size ≠ p.g3; omega))))))).trans c1
    obtain ⟨q0, q1, q2, q3, q4⟩ := Mwz.out.cells
    clear hwz hA3 d0 d1 d4 d5 y0 y1 y2 y3
    have y4 := Mwz.out.froz 4
    rcases HRUN.out with hrun | hrun
    · have hra : (K.run == (ee : Int)) = true := by simp [hrun]
      have HC2 : Hid (call3 K 2 ee s to = (0, { K with os := r1.2, al := K.al.set ee false, ac := setAcc K.ac ee 0 0 0 0, run := -1 })) := by show _ = _; rw [HC.out, if_pos hrun]
      clear hrun
      go_upto_region 5 with (fail)
      go_quiet (fail)
      go_wp2
      go_end0
      rw [HC2.out]
      exact .inr ⟨rfl, rfl, p2, (Mwz.out.kept ((Kept.refl [] wz).drewN nq) (by simp) (by simp) (by simp) (by simp)).setRun (-1), .inr ⟨HG1.out.1, by have := HG1.out.2; simp; show p2.g1 < wz.heap.size; omega⟩, E2.out, E3.out, (Kwz.out.drewN nq).setCell (p := ⟨g, 4, none⟩) (by simp) _⟩
    · have hra : (K.run == (ee : Int)) = false := by simp [hrun]
      have HC2 : Hid (call3 K 2 ee s to = (0, { K with os := r1.2, al := K.al.set ee false, ac := setAcc K.ac ee 0 0 0 0 })) := by show _ = _; rw [HC.out, if_neg hrun]
      clear hrun
      go_upto_region 5 with (fail)
      go_quiet (fail)
      go_wp2
      go_end0
      rw [HC2.out]
      exact .inr ⟨rfl, rfl, p2, Mwz.out.kept ((Kept.refl [] wz).drewN nq) (by simp) (by simp) (by simp) (by simp), .inr ⟨HG1.out.1, by have := HG1.out.2; show p2.g1 < wz.heap.size; omega⟩, E2.out, E3.out, Kwz.out.drewN nq⟩



set_option maxHeartbeats 16000000 in
theorem meetMove_any {g : Nat} {p : Kp} {K : Ker} {q : Value} {w : World} (h : MB w g p K q) (kk : Int) (ee : Nat) (s : Int) (tt : Nat) (he : ee < 4) (ht : tt < 4) (hn : p.n1 ≤ 12) :
    Calls Tryz.prog 129 #[.pointer (some ⟨g, 0, none⟩), .agg #[.int .i64 kk, .int .i64 (ee : Int), .int .i64 s, .int .i64 (tt : Int)]] w (TA (call3 K 5 ee s (tt : Int)) g p q w) := by
  obtain ⟨w1, hW1⟩ : ∃ w1, w1 = w.alloc (.cells #[.int .i64 kk, .int .i64 (ee : Int), .int .i64 s, .int .i64 (tt : Int)] 55) := ⟨_, rfl⟩
  have k1 : w1.heap[w.heap.size]? = some (.cells #[.int .i64 kk, .int .i64 (ee : Int), .int .i64 s, .int .i64 (tt : Int)] 55 (0, 0)) := by rw [hW1]; exact heap_alloc_new w _
  have X1 : Hid (Kept [] w w1) := by rw [hW1]; exact (Kept.refl _ _).alloc _
  have S1 : Hid (w1.heap.size = w.heap.size + 1) := by show _ = _; rw [hW1]; simp
  have M1 := Lib.hid (h.kept X1.out (by simp) (by simp) (by simp) (by simp))
  have c0 := cell_of_row w1 _ 0 _ _ _ k1
  have c1 := cell_of_row w1 _ 1 _ _ _ k1
  have c2 := cell_of_row w1 _ 2 _ _ _ k1
  have c3 := cell_of_row w1 _ 3 _ _ _ k1
  simp at c0 c1 c2 c3
  have hge : (0 : Int) ≤ (ee : Int) := by omega
  have hle : (ee : Int) < 4 := by omega
  have HL := Lib.hid h.lt
  obtain ⟨q0, q1, q2, q3, q4⟩ := M1.out.cells
  have TN : Hid ((ee : Int).toNat = ee) := Int.toNat_natCast ee
  have TT : Hid ((tt : Int).toNat = tt) := Int.toNat_natCast tt
  clear h
  rcases ha : gb K.al ee with _ | _
  · have HC : Hid (call3 K 5 ee s (tt : Int) = (4, K)) := by show _ = _; unfold call3; rw [if_neg (by omega), TN.out, if_pos ha]
    go_enter Tryz.func129, Tryz.ntmps129
    go_upto_region 1 with (fail)
    rw [← hW1]
    clear hW1
    go_wp2_with fail
    refine (mustLive_no M1.out he ha).mono ?_
    rintro e9 w9 ⟨rfl, rfl⟩
    go_wp2
    exact ⟨rfl, by rw [HC.out]; exact .inl ⟨by show (4 : Int) ≠ 0; decide, rfl, X1.out.mono (by simp)⟩⟩
  rcases hat : gb K.al tt with _ | _
  · have HC : Hid (call3 K 5 ee s (tt : Int) = (4, K)) := by show _ = _; unfold call3; rw [if_neg (by omega), TN.out, if_neg (by rw [ha]; decide), if_neg (by omega), if_neg (by omega), if_neg (by omega), TT.out, if_pos hat]
    go_enter Tryz.func129, Tryz.ntmps129
    go_upto_region 1 with (fail)
    rw [← hW1]
    clear hW1
    go_wp2_with fail
    refine (mustLive_yes M1.out he ha).mono ?_
    rintro e9 w9 ⟨rfl, rfl⟩
    go_wp2_with fail
    refine (mustLive_no M1.out ht hat).mono ?_
    rintro e9 w9 ⟨rfl, rfl⟩
    go_wp2
    exact ⟨rfl, by rw [HC.out]; exact .inl ⟨by show (4 : Int) ≠ 0; decide, rfl, X1.out.mono (by simp)⟩⟩
  obtain ⟨r1, hr1⟩ : ∃ r1, r1 = move1 K.os ee s tt := ⟨_, rfl⟩
  have HR1 := Lib.hid hr1
  clear hr1
  have HCC : Hid (call3 K 5 ee s (tt : Int) = lists K r1) := by show _ = _; unfold call3; rw [if_neg (by omega), TN.out, if_neg (by rw [ha]; decide), if_neg (by omega), if_neg (by omega), if_neg (by omega), TT.out, if_neg (by rw [hat]; decide), ← HR1.out]
  have CT : Hid (∀ W, Below w1.heap.size w1 W → Calls Tryz.prog 161 #[.slice p.A1 p.n1 p.c1, .int .i64 (ee : Int), .int .i64 s, .int .i64 (tt : Int)] W fun e w' => ∃ A n c, e = .returned (.agg #[.int .i64 r1.1, .slice A n c]) ∧ r1.2.length = n ∧ (A = none → c = 0) ∧ Mine w' W.heap.size w'.heap.size 2 A n (fun k => .int .i64 (gi r1.2 k)) ∧ Below W.heap.size W w') := fun W hW => by
    have := implMoveSlot_any 0 w1.heap.size p.A1 p.n1 p.c1 K.os (ee : Int) s (tt : Int) W (by omega) M1.out.own.l1 ((((M1.out.own.m1.sl.wide (Nat.zero_le _) (Nat.le_refl _)).lt).wide (Nat.le_refl _) (Nat.min_le_right _ _)).below hW (Nat.le_refl _))
    rw [← HR1.out] at this
    exact this
  by_cases hq : r1.1 = 0
  · have hq1 := hq
    have HC : Hid (call3 K 5 ee s (tt : Int) = (0, { K with os := r1.2 })) := by show _ = _; rw [HCC.out]; unfold lists; rw [if_neg (by simp [hq])]
    have LN := Lib.hid (show 1 ≤ K.os.length ∧ r1.2.length = K.os.length from by rw [HR1.out]; exact move1_same (by rw [← HR1.out]; exact hq))
    go_enter Tryz.func129, Tryz.ntmps129
    go_upto_region 1 with (fail)
    rw [← hW1]
    clear hW1
    go_wp2_with fail
    refine (mustLive_yes M1.out he ha).mono ?_
    rintro e9 w9 ⟨rfl, rfl⟩
    go_wp2_with fail
    refine (mustLive_yes M1.out ht hat).mono ?_
    rintro e9 w9 ⟨rfl, rfl⟩
    go_upto_region 3 with (fail)
    go_region_dies
    all_goals
      refine (CT.out _ (Below.drew (Below.refl _ _))).mono ?_; rintro e9 w3 ⟨A', n', c', rfl, hl, hnil, hm, hb⟩
      have M3 := Lib.hid (M1.out.kept (Kept.of_below (Below.undrew hb) []) (by simp) (by simp) (by simp) (by simp))
      have KP := Lib.hid ((X1.out.mono (gs' := [g, p.g2, p.g3]) (by simp)).then_below (Below.undrew hb))
      rw [hq1]
      go_wp2_with fail
      refine wpAny_ready (rs := [13]) (by kernel_rfl) (by simp) ?_
      refine AllReady.cons rfl (fun K0 hK0 => ?_) AllReady.nil
      go_simp
      refine (own_yes M3.out _ _ _).mono ?_
      rintro e9 w9 ⟨rfl, rfl⟩
      go_wp2_with fail
      refine wpAny_done (by kernel_rfl) ?_ _
      go_end0
      rw [HC.out]
      obtain ⟨g', z1, z2, _, z3⟩ := hm.one (by have := LN.out; omega)
      have z1 : w1.heap.size ≤ g' := z1
      have s1 := S1.out
      have lt1 := M1.out.lt1 (by have := LN.out; have := M1.out.own.l1; omega)
      have lt2 := M1.out.lt2
      have gl := M1.out.lt
      exact .inr ⟨rfl, rfl, p.withOwners A' n' c' g', (M3.out.kept ((Kept.refl [] w3).alloc _) (by simp) (by simp) (by simp) (by simp)).setOwners hl hnil (z3.below (below_new w3 _) (by omega)) (by omega) (by omega) (by omega), .inr ⟨by show w.heap.size ≤ g'; omega, by show g' < _; simp; omega⟩, rfl, rfl, (KP.out.alloc _).setCell (p := ⟨g, 0, none⟩) (by simp) _⟩
  · have hq2 : (r1.1 != 0) = true := by simp [hq]
    have HC : Hid (call3 K 5 ee s (tt : Int) = (r1.1, K)) := by show _ = _; rw [HCC.out]; unfold lists; rw [if_pos hq]
    go_enter Tryz.func129, Tryz.ntmps129
    go_upto_region 1 with (fail)
    rw [← hW1]
    clear hW1
    go_wp2_with fail
    refine (mustLive_yes M1.out he ha).mono ?_
    rintro e9 w9 ⟨rfl, rfl⟩
    go_wp2_with fail
    refine (mustLive_yes M1.out ht hat).mono ?_
    rintro e9 w9 ⟨rfl, rfl⟩
    go_upto_region 3 with (fail)
    refine wp_region_held_drew (S := fun W => (W.cell? ⟨g, 0, none⟩ = some (.slice p.A1 p.n1 p.c1) ∧ W.cell? ⟨w.heap.size, 1, none⟩ = some (.int .i64 (ee : Int)) ∧ W.cell? ⟨w.heap.size, 2, none⟩ = some (.int .i64 s) ∧ W.cell? ⟨w.heap.size, 3, none⟩ = some (.int .i64 (tt : Int)))) (by kernel_rfl) (⟨q0, c1, c2, c3⟩) (fun hHeld => ?_)
    refine tkH 0 ?_ rfl ?_ hHeld ?_; rotate_left; (intro w hSw; (try dsimp only at hSw); go_simp; try with_reducible rfl); try simp only [Act.put, zz4, zz5, zz6]
    refine tkH 1 ?_ rfl ?_ hHeld ?_; rotate_left; (intro w hSw; (try dsimp only at hSw); go_simp; try with_reducible rfl); try simp only [Act.put, zz4, zz5, zz6]
    refine tkH 2 ?_ rfl ?_ hHeld ?_; rotate_left; (intro w hSw; (try dsimp only at hSw); go_simp; try with_reducible rfl); try simp only [Act.put, zz4, zz5, zz6]
    refine tkH 3 ?_ rfl ?_ hHeld ?_; rotate_left; (intro w hSw; (try dsimp only at hSw); go_simp; try with_reducible rfl); try simp only [Act.put, zz4, zz5, zz6]
    refine tkH 4 ?_ rfl ?_ hHeld ?_; rotate_left; (intro w hSw; (try dsimp only at hSw); go_simp; try with_reducible rfl); try simp only [Act.put, zz4, zz5, zz6]
    refine tkH 5 ?_ rfl ?_ hHeld ?_; rotate_left; (intro w hSw; (try dsimp only at hSw); go_simp; try with_reducible rfl); try simp only [Act.put, zz4, zz5, zz6]
    refine tkH 6 ?_ rfl ?_ hHeld ?_; rotate_left; (intro w hSw; (try dsimp only at hSw); go_simp; try with_reducible rfl); try simp only [Act.put, zz4, zz5, zz6]
    refine tkH 7 ?_ rfl ?_ hHeld ?_; rotate_left; (intro w hSw; (try dsimp only at hSw); go_simp; try with_reducible rfl); try simp only [Act.put, zz4, zz5, zz6]
    refine tkH 8 ?_ rfl ?_ hHeld ?_; rotate_left; (intro w hSw; (try dsimp only at hSw); go_simp; try with_reducible rfl); try simp only [Act.put, zz4, zz5, zz6]
    refine tkH 9 ?_ rfl ?_ hHeld ?_; rotate_left; (intro w hSw; (try dsimp only at hSw); go_simp; try with_reducible rfl); try simp only [Act.put, zz4, zz5, zz6]
    refine tkH 10 ?_ rfl ?_ hHeld ?_; rotate_left; (intro w hSw; (try dsimp only at hSw); go_simp; try with_reducible rfl); try simp only [Act.put, zz4, zz5, zz6]
    refine tkH 11 ?_ rfl ?_ hHeld ?_; rotate_left; (intro w hSw; (try dsimp only at hSw); go_simp; try with_reducible rfl); try simp only [Act.put, zz4, zz5, zz6]
    refine wpAnyH_ready (rs := [12]) (by kernel_rfl) (by simp) ?_
    refine AllReadyH.cons (o := _) rfl (fun K hK => ?_) AllReadyH.nil
    go_simp
    refine (CT.out _ (Below.drew (Below.refl _ _))).mono ?_; rintro e9 w3 ⟨A', n', c', rfl, hl, hnil, hm, hb⟩; have KP := Lib.hid ((X1.out.mono (gs' := [g, p.g2, p.g3]) (by simp)).then_below (Below.undrew hb))
    go_wp2_with fail
    refine hK.out _ _ (⟨(hb.cell (p := ⟨g, 0, none⟩) (by have := S1.out; have := HL.out; show g < w1.heap.size; omega)).trans q0, (hb.cell (p := ⟨w.heap.size, 1, none⟩) (by have := S1.out; show w.heap.size < w1.heap.size; omega)).trans c1, (hb.cell (p := ⟨w.heap.size, 2, none⟩) (by have := S1.out; show w.heap.size < w1.heap.size; omega)).trans c2, (hb.cell (p := ⟨w.heap.size, 3, none⟩) (by have := S1.out; show w.heap.size < w1.heap.size; omega)).trans c3⟩) (fun hHeld => ?_)
    clear hK K
    try simp only [Act.put, zz4, zz5, zz6]
    refine wpAnyH_ready (rs := [13]) (by kernel_rfl) (by simp) ?_
    refine AllReadyH.cons (o := _) rfl (fun K hK => ?_) AllReadyH.nil
    go_simp
    refine (own_no _ r1.1 hq2 _ _ _).mono ?_; rintro e9 w9 ⟨rfl, rfl⟩
    go_wp2_with fail
    exact ⟨rfl, by rw [HC.out]; exact .inl ⟨hq, rfl, KP.out.alloc _⟩⟩

end Go.Proofs.YtckapndpefkcgaaGreat
