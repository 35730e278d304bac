/-
  The model's WakeOne. No conditions beyond that the lists can be read.
-/
import Derived.Test.YtachpoehejdpjaaDoorSpec6d
import Derived.Test.YtachpoehejdpjaaDoorSpec6e
namespace Go.Proofs.YtachpoehejdpjaaDoor
open Go.RowKit
set_option maxRecDepth 100000

set_option maxHeartbeats 4000000 in
theorem specWakeOne_any (lo hi lo' hi' : Nat) (A B : Option Addr) (n c m d : Nat) (o : Int) (xs ys : List Int) (w : World) (hn : n ≤ 1048576) (hnc : n ≤ c) (ex : xs.length = n) (hA : A = none → c = 0) (h : Sl w lo hi A n (fun k => .int .i64 (gi xs k)))
    (hm : m ≤ 1048576) (hmd : m ≤ d) (ey : ys.length = m) (hB : B = none → d = 0) (k : Sl w lo' hi' B m (fun k => .int .i64 (gi ys k))) :
    Calls Tryd.prog 23 #[.slice B m d, .agg #[.int .i64 o, .slice A n c]] w (LA (one6 ys o xs) w) := by
  obtain ⟨w1, hw1⟩ : ∃ w1, w1 = (w.alloc (.cells #[.int .i64 o, .slice A n c] 26)).alloc (.cells #[.int .i64 0, .bool false, .int .i64 0, .int .i64 0, .slice none 0 0, .slice none 0 0] 30) := ⟨_, rfl⟩
  have K1 : Hid (w1.heap[w.heap.size]? = some (.cells #[.int .i64 o, .slice A n c] 26 (0, 0))) := by show _ = _; rw [hw1]; exact heap_alloc2_old w _ _
  have K2 : Hid (w1.heap[w.heap.size + 1]? = some (.cells #[.int .i64 0, .bool false, .int .i64 0, .int .i64 0, .slice none 0 0, .slice none 0 0] 30 (0, 0))) := by show _ = _; rw [hw1]; exact heap_alloc2_new w _ _
  have B1 : Hid (Below w.heap.size w w1) := by rw [hw1]; exact (below_new w _).alloc (by simp) _
  have Z1 : Hid (w1.heap.size = w.heap.size + 2) := by show _ = _; rw [hw1]; simp
  have KB : Hid (∀ W, Below w1.heap.size w1 W → W.heap[w.heap.size]? = some (.cells #[.int .i64 o, .slice A n c] 26 (0, 0))) := fun W hW => (hW.block w.heap.size (by have := Z1.out; omega)).trans K1.out
  have KS : Hid (∀ W, Below w1.heap.size w1 W → W.cell? ⟨w.heap.size, 0, none⟩ = some (.int .i64 o) ∧ W.cell? ⟨w.heap.size, 1, none⟩ = some (.slice A n c)) := fun W hW => by
    have j := KB.out W hW
    exact ⟨cell_of_row W _ 0 _ _ _ j, cell_of_row W _ 1 _ _ _ j⟩
  have KR : Hid (∀ W, Below w1.heap.size w1 W → W.heap[w.heap.size + 1]? = some (.cells #[.int .i64 0, .bool false, .int .i64 0, .int .i64 0, .slice none 0 0, .slice none 0 0] 30 (0, 0))) := fun W hW => (hW.block (w.heap.size + 1) (by have := Z1.out; omega)).trans K2.out
  have FIN : Hid (∀ W, Below w1.heap.size w1 W → Below w.heap.size w W) := fun W hW => B1.out.trans (hW.mono (by have := Z1.out; omega))
  have HL := Lib.hid h.lt
  have HY := Lib.hid k.lt
  have EX := Lib.hid ex
  have EY := Lib.hid ey
  have NC := Lib.hid hnc
  have MD := Lib.hid hmd
  have HAN := Lib.hid hA
  have HBN := Lib.hid hB
  have HW1 := Lib.hid hw1
  clear hw1 hnc ex hA h hmd ey hB k
  have WK := Lib.hid (l6Wakes_any lo (min hi w.heap.size) lo' (min hi' w.heap.size) A B n c m d w.heap.size o xs ys w1 (by omega) NC.out EX.out (HL.out.below B1.out (by omega)) K1.out (by omega) MD.out EY.out (HY.out.below B1.out (by omega)))
  go_enter Tryd.func23, Tryd.ntmps23
  go_upto_region 1 with (fail)
  rw [← HW1.out]
  clear HW1
  go_wp2_with fail
  refine WK.out.mono ?_
  rintro e9 w3 ⟨rfl, hb⟩
  have B3 := Lib.hid hb
  clear hb WK
  obtain ⟨q, hq⟩ : ∃ q, q = wf6 ys o xs := ⟨_, rfl⟩
  rw [← hq]
  by_cases hz : q = 0
  rotate_left
  · have hz' : (q != 0) = true := by simp [hz]
    have HA : Hid (one6 ys o xs = z6 q) := by show _ = _; unfold one6; rw [if_pos (by rw [← hq]; exact hz), hq]
    clear hq hz
    have RB := KR.out w3 B3.out
    have r0 := cell_of_row w3 _ 0 _ _ _ RB; have f0 := frozen_of_row w3 _ 0 _ _ RB
    have r1 := cell_of_row w3 _ 1 _ _ _ RB; have f1 := frozen_of_row w3 _ 1 _ _ RB
    have r2 := cell_of_row w3 _ 2 _ _ _ RB; have f2 := frozen_of_row w3 _ 2 _ _ RB
    have r3 := cell_of_row w3 _ 3 _ _ _ RB; have f3 := frozen_of_row w3 _ 3 _ _ RB
    have r4 := cell_of_row w3 _ 4 _ _ _ RB; have f4 := frozen_of_row w3 _ 4 _ _ RB
    have r5 := cell_of_row w3 _ 5 _ _ _ RB; have f5 := frozen_of_row w3 _ 5 _ _ RB
    simp at r0 r1 r2 r3 r4 r5
    have HRB := Lib.hid RB
    clear RB
    go_wp2
    refine bodyPost_ret (results_cell_row rfl _ _ _ _ _ (0, 0) _ rfl (set6_block HRB.out _ _ _ _ _ _) Tryd.underlying30 rfl (by kernel_rfl)) rfl ?_
    rw [HA.out]
    exact la_box HRB.out (by omega) (FIN.out _ B3.out) (z6 (q)) (OR.void _ _) (OR.void _ _) (Apart.none_left _)
  have HA : Hid (one6 ys o xs = wn6 ys o xs) := by show _ = _; unfold one6; rw [if_neg (by rw [← hq]; simp [hz])]
  have HF : Hid (lf6 o xs = 0) := by
    rw [hz] at hq
    unfold wf6 at hq
    show _ = _
    by_cases h1 : qf6 ys ≠ 0
    · rw [if_pos h1] at hq; exact absurd hq.symm h1
    · rw [if_neg h1] at hq; exact hq.symm
  subst hz
  clear hq
  rcases m with _ | m
  · have HB : Hid (one6 ys o xs = z6 4) := by show _ = _; rw [HA.out]; unfold wn6; rw [if_pos EY.out]
    have RB := KR.out w3 B3.out
    have r0 := cell_of_row w3 _ 0 _ _ _ RB; have f0 := frozen_of_row w3 _ 0 _ _ RB
    have r1 := cell_of_row w3 _ 1 _ _ _ RB; have f1 := frozen_of_row w3 _ 1 _ _ RB
    have r2 := cell_of_row w3 _ 2 _ _ _ RB; have f2 := frozen_of_row w3 _ 2 _ _ RB
    have r3 := cell_of_row w3 _ 3 _ _ _ RB; have f3 := frozen_of_row w3 _ 3 _ _ RB
    have r4 := cell_of_row w3 _ 4 _ _ _ RB; have f4 := frozen_of_row w3 _ 4 _ _ RB
    have r5 := cell_of_row w3 _ 5 _ _ _ RB; have f5 := frozen_of_row w3 _ 5 _ _ RB
    simp at r0 r1 r2 r3 r4 r5
    have HRB := Lib.hid RB
    clear RB
    go_wp2
    refine bodyPost_ret (results_cell_row rfl _ _ _ _ _ (0, 0) _ rfl (set6_block HRB.out _ _ _ _ _ _) Tryd.underlying30 rfl (by kernel_rfl)) rfl ?_
    rw [HB.out]
    exact la_box HRB.out (by omega) (FIN.out _ B3.out) (z6 (4)) (OR.void _ _) (OR.void _ _) (Apart.none_left _)
  obtain ⟨b, off, rfl, h1, h2, hc⟩ := (HY.out.below (FIN.out w3 B3.out) (by omega)).at_ (show 0 < m + 1 by omega)
  have hck := hc 0 (by omega)
  simp only [Nat.add_zero] at hck
  obtain ⟨y0, hy0⟩ : ∃ y0, y0 = gi ys 0 := ⟨_, rfl⟩
  rw [← hy0] at hck
  have HY0 := Lib.hid hy0
  have BL := Lib.hid (show b < w.heap.size by omega)
  have KY : Hid (∀ W, Below w1.heap.size w1 W → W.cell? ⟨b, off, none⟩ = some (.int .i64 y0)) := fun W hW => by
    rw [(FIN.out W hW).cell (p := ⟨b, off, none⟩) (by simpa using BL.out), ← (FIN.out w3 B3.out).cell (p := ⟨b, off, none⟩) (by simpa using BL.out)]
    exact hck
  have htl := run_tail b off (m + 1) d (by omega)
  rw [show (m + 1 : Nat) - 1 = m from rfl] at htl
  have HB : Hid (one6 ys o xs = if (tk6 o xs y0).1 ≠ 0 then z6 (tk6 o xs y0).1 else (0, (tk6 o xs y0).2.1, y0, (tk6 o xs y0).2.2.2.1, (tk6 o xs y0).2.2.2.2.1, ys.drop 1)) := by
    show _ = _
    rw [HA.out]
    unfold wn6
    rw [if_neg (by rw [EY.out]; omega), ← hy0]
  have TL : Hid (∀ W, Below w1.heap.size w1 W → Calls Tryd.prog 11 #[.agg #[.int .i64 o, .slice A n c], .int .i64 y0] W (LA (tk6 o xs y0) W)) := fun W hW => by
    have := specTakeLock_any lo (min hi w.heap.size) A n c o xs y0 W (by omega) NC.out EX.out HAN.out (HL.out.below (FIN.out W hW) (by omega))
    rw [take6_ok HF.out] at this
    exact this
  have L2 := Lib.hid (tk6_len (o := o) (id := y0) (xs := xs)).2
  generalize tk6 o xs y0 = t at *
  obtain ⟨tq, tg, tn, to, tl, t2⟩ := t
  have TL : Hid (∀ W, Below w1.heap.size w1 W → Calls Tryd.prog 11 #[.agg #[.int .i64 o, .slice A n c], .int .i64 y0] W fun e w' => ∃ A' c' B' d', e = .returned (.agg #[.int .i64 tq, .bool tg, .int .i64 tn, .int .i64 to, .slice A' tl.length c', .slice B' t2.length d']) ∧ OR 2 1 w' w1.heap.size A' tl.length c' tl ∧ OR 2 1 w' w1.heap.size B' t2.length d' t2 ∧ Below w1.heap.size w1 w' ∧ Below W.heap.size W w') := fun W hW =>
    (TL.out W hW).mono fun e w' ⟨A', c', B', d', h1, h2, h3, _, h5⟩ => ⟨A', c', B', d', h1, OR.mono h2 hW.size, OR.mono h3 hW.size, hW.trans (h5.mono hW.size), h5⟩
  have HB : Hid (one6 ys o xs = if tq ≠ 0 then z6 tq else (0, tg, y0, to, tl, ys.drop 1)) := HB.out
  have CT : Hid (∀ W, Below w1.heap.size w1 W → Calls Tryd.prog 41 #[.slice (some (nextA b off d)) m (d - 1)] W fun e w' => ∃ A' c', e = .returned (.slice A' m c') ∧ OR 2 1 w' W.heap.size A' m c' (ys.drop 1) ∧ Below W.heap.size W w') := fun W hW =>
    l1IntsO_any lo' (min hi' w.heap.size) (some (nextA b off d)) m (d - 1) (ys.drop 1) W (by omega) (by simp [EY.out]) (by simp) (sl_tail (n := m + 1) EY.out MD.out (HY.out.below (FIN.out W hW) (by omega)))
  clear hc h1 h2 hck hy0 HA L2
  go_upto_region 6 with (fail)
  go_cut [6] from 17 (fun x6 wx => ∃ (g6 : Nat) (A' : Option Addr) (c' : Nat) (B' : Option Addr) (d' : Nat), x6 = .pointer (some ⟨g6, 0, none⟩) ∧ wx.heap[g6]? = some (.cells #[.int .i64 tq, .bool tg, .int .i64 tn, .int .i64 to, .slice A' tl.length c', .slice B' t2.length d'] 30 (0, 0)) ∧ w1.heap.size ≤ g6 ∧ OR 2 1 wx w1.heap.size A' tl.length c' tl ∧ OR 2 1 wx w1.heap.size B' t2.length d' t2 ∧ Below w1.heap.size w1 wx)
  case first => as_aux_lemma =>
    refine wp_region_held_drew (S := fun W => W.cell? ⟨w.heap.size, 0, none⟩ = some (.int .i64 o) ∧ W.cell? ⟨w.heap.size, 1, none⟩ = some (.slice A n c) ∧ W.cell? ⟨b, off, none⟩ = some (.int .i64 y0)) (by kernel_rfl) (⟨(KS.out _ B3.out.drew).1, (KS.out _ B3.out.drew).2, KY.out _ B3.out.drew⟩) (fun hHeld => ?_)
    obtain ⟨v0, hv0⟩ : ∃ v0, v0 = w3.drew := ⟨_, rfl⟩
    have BL0 : Hid (Below w3.heap.size w3 v0) := by rw [hv0]; exact Below.drew (Below.refl _ _)
    rw [← hv0] at hHeld ⊢
    clear hv0
    have V0B := Lib.hid (B3.out.trans (BL0.out.mono B3.out.size))
    refine wpAnyH_take (i := 0) (oi := _) (v := ?_) rfl (by kernel_rfl) (by kernel_rfl) (by kernel_rfl) (fun _ _ _ h => h) (Or.inl ⟨by rfl, ?_⟩) hHeld ?_
    rotate_left
    · (intro w hSw; (try dsimp only at hSw); go_simp; try with_reducible rfl)
    try simp only [Act.put, List.getElem_toArray, List.getElem_cons_succ, List.getElem_cons_zero, List.setIfInBounds_toArray, List.set_cons_zero, List.set_cons_succ]
    refine wpAnyH_take (i := 1) (oi := _) (v := ?_) rfl (by kernel_rfl) (by kernel_rfl) (by kernel_rfl) (fun _ _ _ h => h) (Or.inl ⟨by rfl, ?_⟩) hHeld ?_
    rotate_left
    · (intro w hSw; (try dsimp only at hSw); go_simp; try with_reducible rfl)
    try simp only [Act.put, List.getElem_toArray, List.getElem_cons_succ, List.getElem_cons_zero, List.setIfInBounds_toArray, List.set_cons_zero, List.set_cons_succ]
    refine wpAnyH_take (i := 2) (oi := _) (v := ?_) rfl (by kernel_rfl) (by kernel_rfl) (by kernel_rfl) (fun _ _ _ h => h) (Or.inl ⟨by rfl, ?_⟩) hHeld ?_
    rotate_left
    · (intro w hSw; (try dsimp only at hSw); go_simp; try with_reducible rfl)
    try simp only [Act.put, List.getElem_toArray, List.getElem_cons_succ, List.getElem_cons_zero, List.setIfInBounds_toArray, List.set_cons_zero, List.set_cons_succ]
    refine wpAnyH_take (i := 3) (oi := _) (v := ?_) rfl (by kernel_rfl) (by kernel_rfl) (by kernel_rfl) (fun _ _ _ h => h) (Or.inl ⟨by rfl, ?_⟩) hHeld ?_
    rotate_left
    · (intro w hSw; (try dsimp only at hSw); go_simp; try with_reducible rfl)
    try simp only [Act.put, List.getElem_toArray, List.getElem_cons_succ, List.getElem_cons_zero, List.setIfInBounds_toArray, List.set_cons_zero, List.set_cons_succ]
    refine wpAnyH_ready (rs := [4, 5]) (by kernel_rfl) (by simp) ?_
    refine AllReadyH.cons (o := _) rfl (fun K0 hK0 => ?_) (AllReadyH.cons (o := _) rfl (fun K0 hK0 => ?_) AllReadyH.nil)
    · go_simp
      refine (TL.out _ (V0B.out)).mono ?_
      rintro e9 v1 ⟨A', c', B', d', rfl, ho, ho2, hb, hbb⟩
      go_wp2_with fail
      have B1 := Lib.hid hb
      have OW := Lib.hid ho
      have OW2 := Lib.hid ho2
      clear ho ho2 hb hbb
      refine hK0.out _ _ (⟨(KS.out _ B1.out).1, (KS.out _ B1.out).2, KY.out _ B1.out⟩) (fun hHeld => ?_)
      clear hK0 K0
      try simp only [Act.put, List.getElem_toArray, List.getElem_cons_succ, List.getElem_cons_zero, List.setIfInBounds_toArray, List.set_cons_zero, List.set_cons_succ]
      refine wpAnyH_ready (rs := [5]) (by kernel_rfl) (by simp) ?_
      refine AllReadyH.cons (o := _) rfl (fun K0 hK0 => ?_) AllReadyH.nil
      go_simp
      refine hK0.out _ _ (⟨(KS.out _ (B1.out.alloc B1.out.size _)).1, (KS.out _ (B1.out.alloc B1.out.size _)).2, KY.out _ (B1.out.alloc B1.out.size _)⟩) (fun hHeld => ?_)
      clear hK0 K0
      try simp only [Act.put, List.getElem_toArray, List.getElem_cons_succ, List.getElem_cons_zero, List.setIfInBounds_toArray, List.set_cons_zero, List.set_cons_succ]
      refine wpAnyH_ready (rs := [6]) (by kernel_rfl) (by simp) ?_
      refine AllReadyH.cons (o := _) rfl (fun K0 hK0 => ?_) AllReadyH.nil
      clear hHeld
      rw [if_pos (by rfl)]
      refine wp_store_row 30 _ _ rfl (v1.heap.size) _ rfl rfl 30 _ (heap_alloc_new _ _) (by kernel_rfl) rfl (by simp [Value.oneCell']) ?_
      refine hK0.out _ _ (⟨(KS.out _ (below_setRow (B1.out.alloc B1.out.size _) B1.out.size _)).1, (KS.out _ (below_setRow (B1.out.alloc B1.out.size _) B1.out.size _)).2, KY.out _ (below_setRow (B1.out.alloc B1.out.size _) B1.out.size _)⟩) (fun hHeld => ?_)
      clear hK0 K0
      try simp only [Act.put, List.getElem_toArray, List.getElem_cons_succ, List.getElem_cons_zero, List.setIfInBounds_toArray, List.set_cons_zero, List.set_cons_succ]
      refine wpAnyH_done (by kernel_rfl) ?_ _
      go_wp2_with fail
      go_meet
      case rel => exact ⟨v1.heap.size, A', c', B', d', rfl, setRow_heap _ _ _ _ _ _ (heap_alloc_new _ _), B1.out.size, OR.rowOther6 (OR.alloc OW.out _) (heap_alloc_new _ _) (by decide) _, OR.rowOther6 (OR.alloc OW2.out _) (heap_alloc_new _ _) (by decide) _, below_setRow (B1.out.alloc B1.out.size _) B1.out.size _⟩
    · go_simp
      have ZB0 := Lib.hid (show w1.heap.size ≤ v0.heap.size from V0B.out.size)
      refine hK0.out _ _ (⟨(KS.out _ (V0B.out.alloc V0B.out.size _)).1, (KS.out _ (V0B.out.alloc V0B.out.size _)).2, KY.out _ (V0B.out.alloc V0B.out.size _)⟩) (fun hHeld => ?_)
      clear hK0 K0
      try simp only [Act.put, List.getElem_toArray, List.getElem_cons_succ, List.getElem_cons_zero, List.setIfInBounds_toArray, List.set_cons_zero, List.set_cons_succ]
      refine wpAnyH_ready (rs := [4]) (by kernel_rfl) (by simp) ?_
      refine AllReadyH.cons (o := _) rfl (fun K0 hK0 => ?_) AllReadyH.nil
      go_simp
      refine (TL.out _ (V0B.out.alloc V0B.out.size _)).mono ?_
      rintro e9 v1 ⟨A', c', B', d', rfl, ho, ho2, hb, hbb⟩
      go_wp2_with fail
      have B1 := Lib.hid hb
      have OW := Lib.hid ho
      have OW2 := Lib.hid ho2
      have ZB := Lib.hid ((hbb.block v0.heap.size (by simp)).trans (heap_alloc_new v0 _))
      clear ho ho2 hb hbb
      refine hK0.out _ _ (⟨(KS.out _ B1.out).1, (KS.out _ B1.out).2, KY.out _ B1.out⟩) (fun hHeld => ?_)
      clear hK0 K0
      try simp only [Act.put, List.getElem_toArray, List.getElem_cons_succ, List.getElem_cons_zero, List.setIfInBounds_toArray, List.set_cons_zero, List.set_cons_succ]
      refine wpAnyH_ready (rs := [6]) (by kernel_rfl) (by simp) ?_
      refine AllReadyH.cons (o := _) rfl (fun K0 hK0 => ?_) AllReadyH.nil
      clear hHeld
      rw [if_pos (by rfl)]
      refine wp_store_row 30 _ _ rfl (v0.heap.size) _ rfl rfl 30 _ ZB.out (by kernel_rfl) rfl (by simp [Value.oneCell']) ?_
      refine hK0.out _ _ (⟨(KS.out _ (below_setRow B1.out ZB0.out _)).1, (KS.out _ (below_setRow B1.out ZB0.out _)).2, KY.out _ (below_setRow B1.out ZB0.out _)⟩) (fun hHeld => ?_)
      clear hK0 K0
      try simp only [Act.put, List.getElem_toArray, List.getElem_cons_succ, List.getElem_cons_zero, List.setIfInBounds_toArray, List.set_cons_zero, List.set_cons_succ]
      refine wpAnyH_done (by kernel_rfl) ?_ _
      go_wp2_with fail
      go_meet
      case rel => exact ⟨v0.heap.size, A', c', B', d', rfl, setRow_heap _ _ _ _ _ _ ZB.out, ZB0.out, OR.rowOther6 OW.out ZB.out (by decide) _, OR.rowOther6 OW2.out ZB.out (by decide) _, below_setRow B1.out ZB0.out _⟩
  case rest => as_aux_lemma =>
    obtain ⟨wx, hwx⟩ : ∃ wx, wx = wc := ⟨_, rfl⟩
    subst hwx
    obtain ⟨g6, A', c', B', d', rfl, hk6, hz6, ho6, ho62, hb6⟩ := hcut
    have K6 := Lib.hid hk6; have Z6 := Lib.hid hz6; have O6 := Lib.hid ho6; have B6 := Lib.hid hb6
    have s0 := cell_of_row wx _ 0 _ _ _ hk6; have s1 := cell_of_row wx _ 1 _ _ _ hk6; have s2 := cell_of_row wx _ 2 _ _ _ hk6; have s3 := cell_of_row wx _ 3 _ _ _ hk6; have s4 := cell_of_row wx _ 4 _ _ _ hk6; have s5 := cell_of_row wx _ 5 _ _ _ hk6; have u2 := frozen_of_row wx _ 2 _ _ hk6
    simp at s0 s1 s2 s3 s4 s5
    clear hk6 hz6 ho6 ho62 hb6
    by_cases hz : tq = 0
    rotate_left
    · have hz' : (tq != 0) = true := by simp [hz]
      have HC : Hid (one6 ys o xs = z6 tq) := by show _ = _; rw [HB.out, if_pos hz]
      clear hz
      have RB := KR.out wx B6.out
      have r0 := cell_of_row wx _ 0 _ _ _ RB; have f0 := frozen_of_row wx _ 0 _ _ RB
      have r1 := cell_of_row wx _ 1 _ _ _ RB; have f1 := frozen_of_row wx _ 1 _ _ RB
      have r2 := cell_of_row wx _ 2 _ _ _ RB; have f2 := frozen_of_row wx _ 2 _ _ RB
      have r3 := cell_of_row wx _ 3 _ _ _ RB; have f3 := frozen_of_row wx _ 3 _ _ RB
      have r4 := cell_of_row wx _ 4 _ _ _ RB; have f4 := frozen_of_row wx _ 4 _ _ RB
      have r5 := cell_of_row wx _ 5 _ _ _ RB; have f5 := frozen_of_row wx _ 5 _ _ RB
      simp at r0 r1 r2 r3 r4 r5
      have HRB := Lib.hid RB
      clear RB
      go_wp2
      refine bodyPost_ret (results_cell_row rfl _ _ _ _ _ (0, 0) _ rfl (set6_block HRB.out _ _ _ _ _ _) Tryd.underlying30 rfl (by kernel_rfl)) rfl ?_
      rw [HC.out]
      exact la_box HRB.out (by omega) (FIN.out _ B6.out) (z6 (tq)) (OR.void _ _) (OR.void _ _) (Apart.none_left _)
    have HC : Hid (one6 ys o xs = (0, tg, y0, to, tl, ys.drop 1)) := by show _ = _; rw [HB.out, if_neg (by simp [hz])]
    subst hz
    have y0c := KY.out wx B6.out
    obtain ⟨w7, hw7⟩ : ∃ w7, w7 = wx.setCell ⟨g6, 2, none⟩ (.int .i64 y0) := ⟨_, rfl⟩
    have K7 : Hid (w7.heap[g6]? = some (.cells #[.int .i64 0, .bool tg, .int .i64 y0, .int .i64 to, .slice A' tl.length c', .slice B' t2.length d'] 30 (0, 0))) := by show _ = _; rw [hw7]; exact heap_setCell_same wx _ 2 _ _ _ K6.out
    have O7 : Hid (OR 2 1 w7 w1.heap.size A' tl.length c' tl) := by rw [hw7]; exact OR.setOther6 O6.out K6.out (by decide) 2 _
    have B7 : Hid (Below w1.heap.size w1 w7) := by rw [hw7]; exact B6.out.setCell (p := ⟨g6, 2, none⟩) Z6.out _
    have HW7 := Lib.hid hw7
    clear hw7
    go_upto_region 10 with (fail)
    rw [← HW7.out]
    clear HW7 s0 s1 s2 s3 s4 s5 u2 y0c
    go_upto_region 11 with
      (go_at_call 41
       refine (CT.out _ B7.out).mono ?_
       rintro e9 w8 ⟨A8, c8, rfl, ho, hb⟩
       have O8 := Lib.hid ho
       have B8 := Lib.hid (B7.out.trans (hb.mono B7.out.size))
       have K8 := Lib.hid ((hb.block g6 (Array.getElem?_eq_some_iff.1 K7.out).1).trans K7.out)
       have O78 := Lib.hid (O7.out.below hb (Nat.le_refl _))
       have AP := Lib.hid (Apart.rows O7.out O8.out (Nat.le_refl _))
       have ZZ := Lib.hid (show w.heap.size ≤ w7.heap.size by have := B7.out.size; have := Z1.out; omega)
       clear ho hb
       have u5 := frozen_of_row w8 _ 5 _ _ K8.out
       have v5 := cell_of_row w8 _ 5 _ _ _ K8.out
       simp at v5)
    obtain ⟨w9, hw9⟩ : ∃ w9, w9 = w8.setCell ⟨g6, 5, none⟩ (.slice A8 m c8) := ⟨_, rfl⟩
    have K9 : Hid (w9.heap[g6]? = some (.cells #[.int .i64 0, .bool tg, .int .i64 y0, .int .i64 to, .slice A' tl.length c', .slice A8 m c8] 30 (0, 0))) := by show _ = _; rw [hw9]; exact heap_setCell_same w8 _ 5 _ _ _ K8.out
    have O9 : Hid (OR 2 1 w9 w.heap.size A' tl.length c' tl) := by rw [hw9]; exact OR.mono (OR.setOther6 O78.out K8.out (by decide) 5 _) (by have := Z1.out; omega)
    have P9 : Hid (OR 2 1 w9 w.heap.size A8 m c8 (ys.drop 1)) := by rw [hw9]; exact OR.mono (OR.setOther6 O8.out K8.out (by decide) 5 _) ZZ.out
    have B9 : Hid (Below w1.heap.size w1 w9) := by rw [hw9]; exact B8.out.setCell (p := ⟨g6, 5, none⟩) Z6.out _
    have HW9 := Lib.hid hw9
    clear hw9
    rw [← HW9.out]
    clear HW9 u5 v5
    have s0 := cell_of_row w9 _ 0 _ _ _ K9.out; have s1 := cell_of_row w9 _ 1 _ _ _ K9.out; have s2 := cell_of_row w9 _ 2 _ _ _ K9.out; have s3 := cell_of_row w9 _ 3 _ _ _ K9.out; have s4 := cell_of_row w9 _ 4 _ _ _ K9.out; have s5 := cell_of_row w9 _ 5 _ _ _ K9.out
    simp at s0 s1 s2 s3 s4 s5
    have RB := KR.out w9 B9.out
    have r0 := cell_of_row w9 _ 0 _ _ _ RB; have f0 := frozen_of_row w9 _ 0 _ _ RB
    have r1 := cell_of_row w9 _ 1 _ _ _ RB; have f1 := frozen_of_row w9 _ 1 _ _ RB
    have r2 := cell_of_row w9 _ 2 _ _ _ RB; have f2 := frozen_of_row w9 _ 2 _ _ RB
    have r3 := cell_of_row w9 _ 3 _ _ _ RB; have f3 := frozen_of_row w9 _ 3 _ _ RB
    have r4 := cell_of_row w9 _ 4 _ _ _ RB; have f4 := frozen_of_row w9 _ 4 _ _ RB
    have r5 := cell_of_row w9 _ 5 _ _ _ RB; have f5 := frozen_of_row w9 _ 5 _ _ RB
    simp at r0 r1 r2 r3 r4 r5
    have HRB := Lib.hid RB
    clear RB
    go_wp2
    have EM := EY.out
    have EL : m = (ys.drop 1).length := by simp [EM]
    rw [EL] at P9 ⊢
    refine bodyPost_ret (results_cell_row rfl _ _ _ _ _ (0, 0) _ rfl (set6_block HRB.out _ _ _ _ _ _) Tryd.underlying30 rfl (by kernel_rfl)) rfl ?_
    rw [HC.out]
    exact la_box HRB.out (by omega) (FIN.out _ B9.out) ((0, tg, y0, to, tl, ys.drop 1)) (O9.out) (P9.out) (AP.out)


end Go.Proofs.YtachpoehejdpjaaDoor
