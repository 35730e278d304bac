/-
  The program's wakeOne. No conditions beyond that the lists can be read and that the sentinels lie where they were laid.
-/
import Derived.Test.YtachpoehejdpjaaDoorImpl6c
namespace Go.Proofs.YtachpoehejdpjaaDoor
open Go.RowKit
set_option maxRecDepth 100000

/-- an answer beside an error, in one form -/
theorem TA.form {E : E6} {r : A6} {w w' : World} {e : Ending} (h : TA E r w e w') : ∃ u0 u1 u2 u3 A' n' c' B' m' d', e = .returned (.tuple #[.agg #[.int .i64 u0, .bool u1, .int .i64 u2, .int .i64 u3, .slice A' n' c', .slice B' m' d'], er6 E r.1]) ∧
    (r.1 = 0 → u0 = 0 ∧ u1 = r.2.1 ∧ u2 = r.2.2.1 ∧ u3 = r.2.2.2.1 ∧ OR 2 1 w' w.heap.size A' n' c' r.2.2.2.2.1 ∧ OR 2 1 w' w.heap.size B' m' d' r.2.2.2.2.2 ∧ Apart A' B') ∧ Below w.heap.size w w' := by
  rcases h with ⟨h0, A', c', B', d', rfl, ho, ho2, ap, hb⟩ | ⟨h0, u0, u1, u2, u3, A', n', c', B', m', d', rfl, hb⟩
  · exact ⟨_, _, _, _, _, _, _, _, _, _, by unfold LRV; rw [h0]; rfl, fun _ => ⟨h0, rfl, rfl, rfl, ho, ho2, ap⟩, hb⟩
  · exact ⟨u0, u1, u2, u3, A', n', c', B', m', d', rfl, fun h => absurd h h0, hb⟩

set_option maxHeartbeats 4000000 in
theorem wakeOne_any (E : E6) (lo hi lo' hi' : Nat) (A B : Option Addr) (n c m d : Nat) (o : Int) (xs ys : List Int) (w : World) (hE : Errs E w) (hn : n ≤ 1048576) (hnc : n ≤ c) (ex : xs.length = n) (hA : A = none → c = 0) (h : Sl w lo hi A n (fun k => .int .i64 (gi xs k)))
    (hm : m ≤ 1048576) (hmd : m ≤ d) (ey : ys.length = m) (hB : B = none → d = 0) (k : Sl w lo' hi' B m (fun k => .int .i64 (gi ys k))) :
    Calls Tryd.prog 48 #[.slice B m d, .agg #[.int .i64 o, .slice A n c]] w (TA E (wn6 ys o xs) w) := by
  obtain ⟨w1, hw1⟩ : ∃ w1, w1 = (w.alloc (.cells #[.int .i64 o, .slice A n c] 26)).alloc (.cells #[.int .i64 0, .bool false, .int .i64 0, .int .i64 0, .slice none 0 0, .slice none 0 0] 30) := ⟨_, rfl⟩
  have K1 : Hid (w1.heap[w.heap.size]? = some (.cells #[.int .i64 o, .slice A n c] 26 (0, 0))) := by show _ = _; rw [hw1]; exact heap_alloc2_old w _ _
  have K2 : Hid (w1.heap[w.heap.size + 1]? = some (.cells #[.int .i64 0, .bool false, .int .i64 0, .int .i64 0, .slice none 0 0, .slice none 0 0] 30 (0, 0))) := by show _ = _; rw [hw1]; exact heap_alloc2_new w _ _
  have B1 : Hid (Below w.heap.size w w1) := by rw [hw1]; exact (below_new w _).alloc (by simp) _
  have Z1 : Hid (w1.heap.size = w.heap.size + 2) := by show _ = _; rw [hw1]; simp
  have KB : Hid (∀ W, Below w1.heap.size w1 W → W.heap[w.heap.size]? = some (.cells #[.int .i64 o, .slice A n c] 26 (0, 0))) := fun W hW => (hW.block w.heap.size (by have := Z1.out; omega)).trans K1.out
  have KS : Hid (∀ W, Below w1.heap.size w1 W → W.cell? ⟨w.heap.size, 0, none⟩ = some (.int .i64 o) ∧ W.cell? ⟨w.heap.size, 1, none⟩ = some (.slice A n c)) := fun W hW => by
    have j := KB.out W hW
    exact ⟨cell_of_row W _ 0 _ _ _ j, cell_of_row W _ 1 _ _ _ j⟩
  have KR : Hid (∀ W, Below w1.heap.size w1 W → W.heap[w.heap.size + 1]? = some (.cells #[.int .i64 0, .bool false, .int .i64 0, .int .i64 0, .slice none 0 0, .slice none 0 0] 30 (0, 0))) := fun W hW => (hW.block (w.heap.size + 1) (by have := Z1.out; omega)).trans K2.out
  have FIN : Hid (∀ W, Below w1.heap.size w1 W → Below w.heap.size w W) := fun W hW => B1.out.trans (hW.mono (by have := Z1.out; omega))
  have GE : Hid (∀ W, Below w1.heap.size w1 W → Errs E W) := fun W hW => hE.below (FIN.out W hW)
  have GL := Lib.hid (show 5 < w.heap.size from World.block_lt_of_cell? _ _ hE.empt.1)
  have R0 : Hid (Below w1.heap.size w1 w1) := Below.refl _ _
  have HL := Lib.hid h.lt
  have HY := Lib.hid k.lt
  have EX := Lib.hid ex
  have EY := Lib.hid ey
  have NC := Lib.hid hnc
  have MD := Lib.hid hmd
  have HAN := Lib.hid hA
  have HBN := Lib.hid hB
  have HW1 := Lib.hid hw1
  clear hw1 hnc ex hA h hmd ey hB k hE
  rcases m with _ | m
  · have HB : Hid (wn6 ys o xs = z6 4) := by show _ = _; unfold wn6; rw [if_pos EY.out]
    go_enter Tryd.func48, Tryd.ntmps48
    go_upto_region 1 with (fail)
    rw [← HW1.out]
    clear HW1
    go_upto_region 2 with (fail)
    have gE := (GE.out w1 R0.out).empt.1
    refine wp_region_held_drew (S := fun W => W.cell? ⟨5, 0, none⟩ = some (.iface 92 (.pointer (some E.empt)))) (by kernel_rfl) (((GE.out _ (R0.out).drew).empt.1)) (fun hHeld => ?_)
    obtain ⟨v0, hv0⟩ : ∃ v0, v0 = w1.drew := ⟨_, rfl⟩
    have BL0 : Hid (Below w1.heap.size w1 v0) := by rw [hv0]; exact Below.drew (Below.refl _ _)
    rw [← hv0] at hHeld ⊢
    clear hv0
    refine wpAnyH_take (i := 0) (oi := _) (v := ?_) rfl (by kernel_rfl) (by kernel_rfl) (by kernel_rfl) (fun _ _ _ h => h) (Or.inl ⟨by rfl, ?_⟩) hHeld ?_
    rotate_left
    · (intro w hSw; (try dsimp only at hSw); go_simp; try with_reducible rfl)
    try simp only [Act.put, List.getElem_toArray, List.getElem_cons_succ, List.getElem_cons_zero, List.setIfInBounds_toArray, List.set_cons_zero, List.set_cons_succ]
    refine wpAnyH_take (i := 1) (oi := _) (v := ?_) rfl (by kernel_rfl) (by kernel_rfl) (by kernel_rfl) (fun _ _ _ h => h) (Or.inl ⟨by rfl, ?_⟩) hHeld ?_
    rotate_left
    · (intro w hSw; (try dsimp only at hSw); go_simp; try with_reducible rfl)
    try simp only [Act.put, List.getElem_toArray, List.getElem_cons_succ, List.getElem_cons_zero, List.setIfInBounds_toArray, List.set_cons_zero, List.set_cons_succ]
    refine wpAnyH_ready (rs := [2]) (by kernel_rfl) (by simp) ?_
    refine AllReadyH.cons (o := _) rfl (fun K0 hK0 => ?_) AllReadyH.nil
    clear hHeld
    rw [if_pos (by rfl)]
    refine wp_store_row 30 _ _ rfl (w.heap.size + 1) _ rfl rfl 30 _ (KR.out _ ((R0.out).trans (BL0.out.mono (R0.out).size))) (by kernel_rfl) rfl (by simp [Value.oneCell']) ?_
    refine hK0.out _ _ ((cell_setRow_other _ _ _ _ (by have := GL.out; first | (simp; done) | (simp; omega))).trans (GE.out _ ((R0.out).trans (BL0.out.mono (R0.out).size))).empt.1) (fun hHeld => ?_)
    clear hK0 K0
    try simp only [Act.put, List.getElem_toArray, List.getElem_cons_succ, List.getElem_cons_zero, List.setIfInBounds_toArray, List.set_cons_zero, List.set_cons_succ]
    refine wpAnyH_take (i := 3) (oi := _) (v := ?_) rfl (by kernel_rfl) (by kernel_rfl) (by kernel_rfl) (fun _ _ _ h => h) (Or.inl ⟨by rfl, ?_⟩) hHeld ?_
    rotate_left
    · (intro w hSw; (try dsimp only at hSw); go_simp; try with_reducible rfl)
    try simp only [Act.put, List.getElem_toArray, List.getElem_cons_succ, List.getElem_cons_zero, List.setIfInBounds_toArray, List.set_cons_zero, List.set_cons_succ]
    refine wpAnyH_done (by kernel_rfl) ?_ _
    have BV := Lib.hid ((R0.out).trans (BL0.out.mono (R0.out).size))
    go_wp2
    refine bodyPost_ret (results_row_err rfl _ _ _ _ _ (0, 0) _ rfl (setRow_heap _ _ _ _ _ _ (KR.out _ BV.out)) Tryd.underlying30 rfl (by kernel_rfl) _ rfl) rfl ?_
    rw [HB.out]
    exact ta_err (KR.out _ BV.out) (by omega) (FIN.out _ BV.out) (by decide) rfl
  obtain ⟨b, off, rfl, h1, h2, hc⟩ := (HY.out.below B1.out (by omega)).at_ (show 0 < m + 1 by omega)
  have hck := hc 0 (by omega)
  simp only [Nat.add_zero] at hck
  obtain ⟨y0, hy0⟩ : ∃ y0, y0 = gi ys 0 := ⟨_, rfl⟩
  rw [← hy0] at hck
  have BL := Lib.hid (show b < w.heap.size by omega)
  have KY : Hid (∀ W, Below w1.heap.size w1 W → W.cell? ⟨b, off, none⟩ = some (.int .i64 y0)) := fun W hW => by
    rw [(FIN.out W hW).cell (p := ⟨b, off, none⟩) (by simpa using BL.out), ← (FIN.out w1 R0.out).cell (p := ⟨b, off, none⟩) (by simpa using BL.out)]
    exact hck
  have htl := run_tail b off (m + 1) d (by omega)
  rw [show (m + 1 : Nat) - 1 = m from rfl] at htl
  have HB : Hid (wn6 ys o xs = if (tk6 o xs y0).1 ≠ 0 then z6 (tk6 o xs y0).1 else (0, (tk6 o xs y0).2.1, y0, (tk6 o xs y0).2.2.2.1, (tk6 o xs y0).2.2.2.2.1, ys.drop 1)) := by
    show _ = _
    unfold wn6
    rw [if_neg (by rw [EY.out]; omega), ← hy0]
  have TL : Hid (∀ W, Below w1.heap.size w1 W → Calls Tryd.prog 34 #[.agg #[.int .i64 o, .slice A n c], .int .i64 y0] W (TA E (tk6 o xs y0) W)) := fun W hW =>
    take_any E lo (min hi w.heap.size) A n c o xs y0 W (GE.out W hW) (by omega) NC.out EX.out HAN.out (HL.out.below (FIN.out W hW) (by omega))
  generalize tk6 o xs y0 = t at *
  obtain ⟨tq, tg, tn, to, tl, t2⟩ := t
  have TL : Hid (∀ W, Below w1.heap.size w1 W → Calls Tryd.prog 34 #[.agg #[.int .i64 o, .slice A n c], .int .i64 y0] W fun e w' => ∃ u0 u1 u2 u3 A' n' c' B' m' d', e = .returned (.tuple #[.agg #[.int .i64 u0, .bool u1, .int .i64 u2, .int .i64 u3, .slice A' n' c', .slice B' m' d'], er6 E tq]) ∧ (tq = 0 → u0 = 0 ∧ u1 = tg ∧ u2 = tn ∧ u3 = to ∧ OR 2 1 w' w1.heap.size A' n' c' tl ∧ OR 2 1 w' w1.heap.size B' m' d' t2) ∧ Below w1.heap.size w1 w' ∧ Below W.heap.size W w') := fun W hW =>
    (TL.out W hW).mono fun e w' h => (let ⟨u0, u1, u2, u3, A', n', c', B', m', d', h1, h2, h3⟩ := TA.form h; ⟨u0, u1, u2, u3, A', n', c', B', m', d', h1, fun hq => (let ⟨a, b, c, d, e, f, _⟩ := h2 hq; ⟨a, b, c, d, OR.mono e hW.size, OR.mono f hW.size⟩), hW.trans (h3.mono hW.size), h3⟩)
  have HB : Hid (wn6 ys o xs = if tq ≠ 0 then z6 tq else (0, tg, y0, to, tl, ys.drop 1)) := HB.out
  have CT : Hid (∀ W, Below w1.heap.size w1 W → Calls Tryd.prog 57 #[.slice (some (nextA b off d)) m (d - 1)] W fun e w' => ∃ A' c', e = .returned (.slice A' m c') ∧ OR 2 1 w' W.heap.size A' m c' (ys.drop 1) ∧ Below W.heap.size W w') := fun W hW =>
    clone6_any lo' (min hi' w.heap.size) (some (nextA b off d)) m (d - 1) (ys.drop 1) W (by omega) (by simp [EY.out]) (by simp) (sl_tail (n := m + 1) EY.out MD.out (HY.out.below (FIN.out W hW) (by omega)))
  clear hc h1 h2 hck hy0
  obtain ⟨ev, hev⟩ : ∃ ev, ev = er6 E tq := ⟨_, rfl⟩
  rw [← hev] at TL
  have HEV := Lib.hid hev
  clear hev
  go_enter Tryd.func48, Tryd.ntmps48
  go_upto_region 1 with (fail)
  rw [← HW1.out]
  clear HW1
  go_upto_region 3 with (fail)
  go_cut [6, 7] from 13 (fun x6 x7 wx => ∃ (g6 : Nat) (u0 : Int) (u1 : Bool) (u2 u3 : Int) (A' : Option Addr) (n' c' : Nat) (B' : Option Addr) (m' d' : Nat), x6 = .pointer (some ⟨g6, 0, none⟩) ∧ x7 = ev ∧ wx.heap[g6]? = some (.cells #[.int .i64 u0, .bool u1, .int .i64 u2, .int .i64 u3, .slice A' n' c', .slice B' m' d'] 30 (0, 0)) ∧ w1.heap.size ≤ g6 ∧ (tq = 0 → u0 = 0 ∧ u1 = tg ∧ u2 = tn ∧ u3 = to ∧ OR 2 1 wx w1.heap.size A' n' c' tl ∧ OR 2 1 wx w1.heap.size B' m' d' t2) ∧ Below w1.heap.size w1 wx)
  case first => as_aux_lemma =>
    refine wp_region_held_drew (S := fun W => W.cell? ⟨w.heap.size, 0, none⟩ = some (.int .i64 o) ∧ W.cell? ⟨w.heap.size, 1, none⟩ = some (.slice A n c) ∧ W.cell? ⟨b, off, none⟩ = some (.int .i64 y0)) (by kernel_rfl) (⟨(KS.out _ R0.out.drew).1, (KS.out _ R0.out.drew).2, KY.out _ R0.out.drew⟩) (fun hHeld => ?_)
    obtain ⟨v0, hv0⟩ : ∃ v0, v0 = w1.drew := ⟨_, rfl⟩
    have BL0 : Hid (Below w1.heap.size w1 v0) := by rw [hv0]; exact Below.drew (Below.refl _ _)
    rw [← hv0] at hHeld ⊢
    clear hv0
    have V0B := Lib.hid (show Below w1.heap.size w1 v0 from BL0.out)
    refine wpAnyH_take (i := 0) (oi := _) (v := ?_) rfl (by kernel_rfl) (by kernel_rfl) (by kernel_rfl) (fun _ _ _ h => h) (Or.inl ⟨by rfl, ?_⟩) hHeld ?_
    rotate_left
    · (intro w hSw; (try dsimp only at hSw); go_simp; try with_reducible rfl)
    try simp only [Act.put, List.getElem_toArray, List.getElem_cons_succ, List.getElem_cons_zero, List.setIfInBounds_toArray, List.set_cons_zero, List.set_cons_succ]
    refine wpAnyH_take (i := 1) (oi := _) (v := ?_) rfl (by kernel_rfl) (by kernel_rfl) (by kernel_rfl) (fun _ _ _ h => h) (Or.inl ⟨by rfl, ?_⟩) hHeld ?_
    rotate_left
    · (intro w hSw; (try dsimp only at hSw); go_simp; try with_reducible rfl)
    try simp only [Act.put, List.getElem_toArray, List.getElem_cons_succ, List.getElem_cons_zero, List.setIfInBounds_toArray, List.set_cons_zero, List.set_cons_succ]
    refine wpAnyH_take (i := 2) (oi := _) (v := ?_) rfl (by kernel_rfl) (by kernel_rfl) (by kernel_rfl) (fun _ _ _ h => h) (Or.inl ⟨by rfl, ?_⟩) hHeld ?_
    rotate_left
    · (intro w hSw; (try dsimp only at hSw); go_simp; try with_reducible rfl)
    try simp only [Act.put, List.getElem_toArray, List.getElem_cons_succ, List.getElem_cons_zero, List.setIfInBounds_toArray, List.set_cons_zero, List.set_cons_succ]
    refine wpAnyH_take (i := 3) (oi := _) (v := ?_) rfl (by kernel_rfl) (by kernel_rfl) (by kernel_rfl) (fun _ _ _ h => h) (Or.inl ⟨by rfl, ?_⟩) hHeld ?_
    rotate_left
    · (intro w hSw; (try dsimp only at hSw); go_simp; try with_reducible rfl)
    try simp only [Act.put, List.getElem_toArray, List.getElem_cons_succ, List.getElem_cons_zero, List.setIfInBounds_toArray, List.set_cons_zero, List.set_cons_succ]
    refine wpAnyH_ready (rs := [4, 8]) (by kernel_rfl) (by simp) ?_
    refine AllReadyH.cons (o := _) rfl (fun K0 hK0 => ?_) (AllReadyH.cons (o := _) rfl (fun K0 hK0 => ?_) AllReadyH.nil)
    · go_simp
      refine (TL.out _ V0B.out).mono ?_
      rintro e9 v1 ⟨u0, u1, u2, u3, A', n', c', B', m', d', rfl, hgd, hb, hbb⟩
      go_wp2_with fail
      have B1 := Lib.hid hb
      have GD := Lib.hid hgd
      clear hgd hb hbb
      refine hK0.out _ _ (⟨(KS.out _ B1.out).1, (KS.out _ B1.out).2, KY.out _ B1.out⟩) (fun hHeld => ?_)
      clear hK0 K0
      try simp only [Act.put, List.getElem_toArray, List.getElem_cons_succ, List.getElem_cons_zero, List.setIfInBounds_toArray, List.set_cons_zero, List.set_cons_succ]
      refine wpAnyH_take (i := 5) (oi := _) (v := ?_) rfl (by kernel_rfl) (by kernel_rfl) (by kernel_rfl) (fun _ _ _ h => h) (Or.inl ⟨by rfl, ?_⟩) hHeld ?_
      rotate_left
      · (intro w hSw; (try dsimp only at hSw); go_simp; try with_reducible rfl)
      try simp only [Act.put, List.getElem_toArray, List.getElem_cons_succ, List.getElem_cons_zero, List.setIfInBounds_toArray, List.set_cons_zero, List.set_cons_succ]
      refine wpAnyH_take (i := 6) (oi := _) (v := ?_) rfl (by kernel_rfl) (by kernel_rfl) (by kernel_rfl) (fun _ _ _ h => h) (Or.inl ⟨by rfl, ?_⟩) hHeld ?_
      rotate_left
      · (intro w hSw; (try dsimp only at hSw); go_simp; try with_reducible rfl)
      try simp only [Act.put, List.getElem_toArray, List.getElem_cons_succ, List.getElem_cons_zero, List.setIfInBounds_toArray, List.set_cons_zero, List.set_cons_succ]
      refine wpAnyH_take (i := 7) (oi := _) (v := ?_) rfl (by kernel_rfl) (by kernel_rfl) (by kernel_rfl) (fun _ _ _ h => h) (Or.inl ⟨by rfl, ?_⟩) hHeld ?_
      rotate_left
      · (intro w hSw; (try dsimp only at hSw); go_simp; try with_reducible rfl)
      try simp only [Act.put, List.getElem_toArray, List.getElem_cons_succ, List.getElem_cons_zero, List.setIfInBounds_toArray, List.set_cons_zero, List.set_cons_succ]
      refine wpAnyH_ready (rs := [8]) (by kernel_rfl) (by simp) ?_
      refine AllReadyH.cons (o := _) rfl (fun K0 hK0 => ?_) AllReadyH.nil
      go_simp
      refine hK0.out _ _ (⟨(KS.out _ (B1.out.alloc B1.out.size _)).1, (KS.out _ (B1.out.alloc B1.out.size _)).2, KY.out _ (B1.out.alloc B1.out.size _)⟩) (fun hHeld => ?_)
      clear hK0 K0
      try simp only [Act.put, List.getElem_toArray, List.getElem_cons_succ, List.getElem_cons_zero, List.setIfInBounds_toArray, List.set_cons_zero, List.set_cons_succ]
      refine wpAnyH_ready (rs := [9]) (by kernel_rfl) (by simp) ?_
      refine AllReadyH.cons (o := _) rfl (fun K0 hK0 => ?_) AllReadyH.nil
      clear hHeld
      rw [if_pos (by rfl)]
      refine wp_store_row 30 _ _ rfl (v1.heap.size) _ rfl rfl 30 _ (heap_alloc_new _ _) (by kernel_rfl) rfl (by simp [Value.oneCell']) ?_
      refine hK0.out _ _ (⟨(KS.out _ (below_setRow (B1.out.alloc B1.out.size _) B1.out.size _)).1, (KS.out _ (below_setRow (B1.out.alloc B1.out.size _) B1.out.size _)).2, KY.out _ (below_setRow (B1.out.alloc B1.out.size _) B1.out.size _)⟩) (fun hHeld => ?_)
      clear hK0 K0
      try simp only [Act.put, List.getElem_toArray, List.getElem_cons_succ, List.getElem_cons_zero, List.setIfInBounds_toArray, List.set_cons_zero, List.set_cons_succ]
      refine wpAnyH_take (i := 10) (oi := _) (v := ?_) rfl (by kernel_rfl) (by kernel_rfl) (by kernel_rfl) (fun _ _ _ h => h) (Or.inl ⟨by rfl, ?_⟩) hHeld ?_
      rotate_left
      · (intro w hSw; (try dsimp only at hSw); go_simp; try with_reducible rfl)
      try simp only [Act.put, List.getElem_toArray, List.getElem_cons_succ, List.getElem_cons_zero, List.setIfInBounds_toArray, List.set_cons_zero, List.set_cons_succ]
      refine wpAnyH_done (by kernel_rfl) ?_ _
      go_wp2_with fail
      go_meet
      case rel => exact ⟨v1.heap.size, u0, u1, u2, u3, A', n', c', B', m', d', rfl, rfl, setRow_heap _ _ _ _ _ _ (heap_alloc_new _ _), B1.out.size, fun hq => (let ⟨a, b, c, d, e, f⟩ := GD.out hq; ⟨a, b, c, d, OR.rowOther6 (OR.alloc e _) (heap_alloc_new _ _) (by decide) _, OR.rowOther6 (OR.alloc f _) (heap_alloc_new _ _) (by decide) _⟩), below_setRow (B1.out.alloc B1.out.size _) B1.out.size _⟩
    · go_simp
      have ZB0 := Lib.hid (show w1.heap.size ≤ v0.heap.size from V0B.out.size)
      refine hK0.out _ _ (⟨(KS.out _ (V0B.out.alloc V0B.out.size _)).1, (KS.out _ (V0B.out.alloc V0B.out.size _)).2, KY.out _ (V0B.out.alloc V0B.out.size _)⟩) (fun hHeld => ?_)
      clear hK0 K0
      try simp only [Act.put, List.getElem_toArray, List.getElem_cons_succ, List.getElem_cons_zero, List.setIfInBounds_toArray, List.set_cons_zero, List.set_cons_succ]
      refine wpAnyH_ready (rs := [4]) (by kernel_rfl) (by simp) ?_
      refine AllReadyH.cons (o := _) rfl (fun K0 hK0 => ?_) AllReadyH.nil
      go_simp
      refine (TL.out _ (V0B.out.alloc V0B.out.size _)).mono ?_
      rintro e9 v1 ⟨u0, u1, u2, u3, A', n', c', B', m', d', rfl, hgd, hb, hbb⟩
      go_wp2_with fail
      have B1 := Lib.hid hb
      have GD := Lib.hid hgd
      have ZB := Lib.hid ((hbb.block v0.heap.size (by simp)).trans (heap_alloc_new v0 _))
      clear hgd hb hbb
      refine hK0.out _ _ (⟨(KS.out _ B1.out).1, (KS.out _ B1.out).2, KY.out _ B1.out⟩) (fun hHeld => ?_)
      clear hK0 K0
      try simp only [Act.put, List.getElem_toArray, List.getElem_cons_succ, List.getElem_cons_zero, List.setIfInBounds_toArray, List.set_cons_zero, List.set_cons_succ]
      refine wpAnyH_take (i := 5) (oi := _) (v := ?_) rfl (by kernel_rfl) (by kernel_rfl) (by kernel_rfl) (fun _ _ _ h => h) (Or.inl ⟨by rfl, ?_⟩) hHeld ?_
      rotate_left
      · (intro w hSw; (try dsimp only at hSw); go_simp; try with_reducible rfl)
      try simp only [Act.put, List.getElem_toArray, List.getElem_cons_succ, List.getElem_cons_zero, List.setIfInBounds_toArray, List.set_cons_zero, List.set_cons_succ]
      refine wpAnyH_take (i := 6) (oi := _) (v := ?_) rfl (by kernel_rfl) (by kernel_rfl) (by kernel_rfl) (fun _ _ _ h => h) (Or.inl ⟨by rfl, ?_⟩) hHeld ?_
      rotate_left
      · (intro w hSw; (try dsimp only at hSw); go_simp; try with_reducible rfl)
      try simp only [Act.put, List.getElem_toArray, List.getElem_cons_succ, List.getElem_cons_zero, List.setIfInBounds_toArray, List.set_cons_zero, List.set_cons_succ]
      refine wpAnyH_take (i := 7) (oi := _) (v := ?_) rfl (by kernel_rfl) (by kernel_rfl) (by kernel_rfl) (fun _ _ _ h => h) (Or.inl ⟨by rfl, ?_⟩) hHeld ?_
      rotate_left
      · (intro w hSw; (try dsimp only at hSw); go_simp; try with_reducible rfl)
      try simp only [Act.put, List.getElem_toArray, List.getElem_cons_succ, List.getElem_cons_zero, List.setIfInBounds_toArray, List.set_cons_zero, List.set_cons_succ]
      refine wpAnyH_ready (rs := [9]) (by kernel_rfl) (by simp) ?_
      refine AllReadyH.cons (o := _) rfl (fun K0 hK0 => ?_) AllReadyH.nil
      clear hHeld
      rw [if_pos (by rfl)]
      refine wp_store_row 30 _ _ rfl (v0.heap.size) _ rfl rfl 30 _ ZB.out (by kernel_rfl) rfl (by simp [Value.oneCell']) ?_
      refine hK0.out _ _ (⟨(KS.out _ (below_setRow B1.out ZB0.out _)).1, (KS.out _ (below_setRow B1.out ZB0.out _)).2, KY.out _ (below_setRow B1.out ZB0.out _)⟩) (fun hHeld => ?_)
      clear hK0 K0
      try simp only [Act.put, List.getElem_toArray, List.getElem_cons_succ, List.getElem_cons_zero, List.setIfInBounds_toArray, List.set_cons_zero, List.set_cons_succ]
      refine wpAnyH_take (i := 10) (oi := _) (v := ?_) rfl (by kernel_rfl) (by kernel_rfl) (by kernel_rfl) (fun _ _ _ h => h) (Or.inl ⟨by rfl, ?_⟩) hHeld ?_
      rotate_left
      · (intro w hSw; (try dsimp only at hSw); go_simp; try with_reducible rfl)
      try simp only [Act.put, List.getElem_toArray, List.getElem_cons_succ, List.getElem_cons_zero, List.setIfInBounds_toArray, List.set_cons_zero, List.set_cons_succ]
      refine wpAnyH_done (by kernel_rfl) ?_ _
      go_wp2_with fail
      go_meet
      case rel => exact ⟨v0.heap.size, u0, u1, u2, u3, A', n', c', B', m', d', rfl, rfl, setRow_heap _ _ _ _ _ _ ZB.out, ZB0.out, fun hq => (let ⟨a, b, c, d, e, f⟩ := GD.out hq; ⟨a, b, c, d, OR.rowOther6 e ZB.out (by decide) _, OR.rowOther6 f ZB.out (by decide) _⟩), below_setRow B1.out ZB0.out _⟩
  case rest => as_aux_lemma =>
    obtain ⟨wx, hwx⟩ : ∃ wx, wx = wc := ⟨_, rfl⟩
    subst hwx
    obtain ⟨g6, u0, u1, u2, u3, A', n', c', B', m', d', rfl, rfl, hk6, hz6, hg6, hb6⟩ := hcut
    have K6 := Lib.hid hk6; have Z6 := Lib.hid hz6; have G6 := Lib.hid hg6; have B6 := Lib.hid hb6
    clear hk6 hz6 hg6 hb6
    go_upto_region 4 with (fail)
    refine wp_region_held_drew (S := fun W => W.cell? ⟨b, off, none⟩ = some (.int .i64 y0)) (by kernel_rfl) (KY.out _ B6.out.drew) (fun hHeld => ?_)
    obtain ⟨v0, hv0⟩ : ∃ v0, v0 = wx.drew := ⟨_, rfl⟩
    have BL0 : Hid (Below wx.heap.size wx v0) := by rw [hv0]; exact Below.drew (Below.refl _ _)
    rw [← hv0] at hHeld ⊢
    clear hv0
    refine wpAnyH_take (i := 0) (oi := _) (v := ?_) rfl (by kernel_rfl) (by kernel_rfl) (by kernel_rfl) (fun _ _ _ h => h) (Or.inl ⟨by rfl, ?_⟩) hHeld ?_
    rotate_left
    · (intro w hSw; (try dsimp only at hSw); go_simp; try with_reducible rfl)
    try simp only [Act.put, List.getElem_toArray, List.getElem_cons_succ, List.getElem_cons_zero, List.setIfInBounds_toArray, List.set_cons_zero, List.set_cons_succ]
    refine wpAnyH_take (i := 1) (oi := _) (v := ?_) rfl (by kernel_rfl) (by kernel_rfl) (by kernel_rfl) (fun _ _ _ h => h) (Or.inl ⟨by rfl, ?_⟩) hHeld ?_
    rotate_left
    · (intro w hSw; (try dsimp only at hSw); go_simp; try with_reducible rfl)
    try simp only [Act.put, List.getElem_toArray, List.getElem_cons_succ, List.getElem_cons_zero, List.setIfInBounds_toArray, List.set_cons_zero, List.set_cons_succ]
    refine wpAnyH_take (i := 2) (oi := _) (v := ?_) rfl (by kernel_rfl) (by kernel_rfl) (by kernel_rfl) (fun _ _ _ h => h) (Or.inl ⟨by rfl, ?_⟩) hHeld ?_
    rotate_left
    · (intro w hSw; (try dsimp only at hSw); go_simp; try with_reducible rfl)
    try simp only [Act.put, List.getElem_toArray, List.getElem_cons_succ, List.getElem_cons_zero, List.setIfInBounds_toArray, List.set_cons_zero, List.set_cons_succ]
    refine wpAnyH_take (i := 3) (oi := _) (v := ?_) rfl (by kernel_rfl) (by kernel_rfl) (by kernel_rfl) (fun _ _ _ h => h) (Or.inl ⟨by rfl, ?_⟩) hHeld ?_
    rotate_left
    · (intro w hSw; (try dsimp only at hSw); go_simp; try with_reducible rfl)
    try simp only [Act.put, List.getElem_toArray, List.getElem_cons_succ, List.getElem_cons_zero, List.setIfInBounds_toArray, List.set_cons_zero, List.set_cons_succ]
    refine wpAnyH_take (i := 4) (oi := _) (v := ?_) rfl (by kernel_rfl) (by kernel_rfl) (by kernel_rfl) (fun _ _ _ h => h) (Or.inl ⟨by rfl, ?_⟩) hHeld ?_
    rotate_left
    · (intro w hSw; (try dsimp only at hSw); go_simp; try with_reducible rfl)
    try simp only [Act.put, List.getElem_toArray, List.getElem_cons_succ, List.getElem_cons_zero, List.setIfInBounds_toArray, List.set_cons_zero, List.set_cons_succ]
    refine wpAnyH_take (i := 6) (oi := _) (v := ?_) rfl (by kernel_rfl) (by kernel_rfl) (by kernel_rfl) (fun _ _ _ h => h) (Or.inl ⟨by rfl, ?_⟩) hHeld ?_
    rotate_left
    · (intro w hSw; (try dsimp only at hSw); go_simp; try with_reducible rfl)
    try simp only [Act.put, List.getElem_toArray, List.getElem_cons_succ, List.getElem_cons_zero, List.setIfInBounds_toArray, List.set_cons_zero, List.set_cons_succ]
    refine wpAnyH_ready (rs := [5]) (by kernel_rfl) (by simp) ?_
    refine AllReadyH.cons (o := _) rfl (fun K0 hK0 => ?_) AllReadyH.nil
    go_simp
    refine (CT.out _ (B6.out.trans (BL0.out.mono B6.out.size))).mono ?_
    rintro e9 v1 ⟨A8, c8, rfl, ho, hb⟩
    go_wp2_with fail
    have BV := Lib.hid ((B6.out.trans (BL0.out.mono B6.out.size)).trans (hb.mono (B6.out.trans (BL0.out.mono B6.out.size)).size))
    have O8 := Lib.hid ho
    have KV := Lib.hid (((hb.block g6 (Array.getElem?_eq_some_iff.1 ((BL0.out.block g6 (Array.getElem?_eq_some_iff.1 K6.out).1).trans K6.out)).1).trans (BL0.out.block g6 (Array.getElem?_eq_some_iff.1 K6.out).1)).trans K6.out)
    have GV : Hid (tq = 0 → u0 = 0 ∧ u1 = tg ∧ u2 = tn ∧ u3 = to ∧ OR 2 1 v1 w1.heap.size A' n' c' tl ∧ OR 2 1 v1 w1.heap.size B' m' d' t2) := fun hq => (let ⟨a, b, c, d, e, f⟩ := G6.out hq; ⟨a, b, c, d, (e.below BL0.out (Nat.le_refl _)).below hb (Nat.le_refl _), (f.below BL0.out (Nat.le_refl _)).below hb (Nat.le_refl _)⟩)
    have PV : Hid (tq = 0 → Apart A' A8) := fun hq => (let ⟨_, _, _, _, e, _⟩ := G6.out hq; Apart.rows (e.below BL0.out (Nat.le_refl _)) ho (Nat.le_refl _))
    have VZ := Lib.hid (show w1.heap.size ≤ v0.heap.size from (B6.out.trans (BL0.out.mono B6.out.size)).size)
    clear ho hb
    have s2 := cell_of_row v1 _ 2 _ _ _ KV.out
    have s5 := cell_of_row v1 _ 5 _ _ _ KV.out
    have t2' := frozen_of_row v1 _ 2 _ _ KV.out
    have t5' := frozen_of_row v1 _ 5 _ _ KV.out
    simp at s2 s5
    refine hK0.out _ _ (KY.out _ BV.out) (fun hHeld => ?_)
    clear hK0 K0
    try simp only [Act.put, List.getElem_toArray, List.getElem_cons_succ, List.getElem_cons_zero, List.setIfInBounds_toArray, List.set_cons_zero, List.set_cons_succ]
    refine wpAnyH_ready (rs := [7]) (by kernel_rfl) (by simp) ?_
    refine AllReadyH.cons (o := _) rfl (fun K0 hK0 => ?_) AllReadyH.nil
    go_simp
    refine hK0.out _ _ (KY.out _ (BV.out.setCell (p := ⟨g6, 2, none⟩) Z6.out _)) (fun hHeld => ?_)
    clear hK0 K0
    try simp only [Act.put, List.getElem_toArray, List.getElem_cons_succ, List.getElem_cons_zero, List.setIfInBounds_toArray, List.set_cons_zero, List.set_cons_succ]
    refine wpAnyH_take (i := 8) (oi := _) (v := ?_) rfl (by kernel_rfl) (by kernel_rfl) (by kernel_rfl) (fun _ _ _ h => h) (Or.inl ⟨by rfl, ?_⟩) hHeld ?_
    rotate_left
    · (intro w hSw; (try dsimp only at hSw); go_simp; try with_reducible rfl)
    try simp only [Act.put, List.getElem_toArray, List.getElem_cons_succ, List.getElem_cons_zero, List.setIfInBounds_toArray, List.set_cons_zero, List.set_cons_succ]
    refine wpAnyH_ready (rs := [9]) (by kernel_rfl) (by simp) ?_
    refine AllReadyH.cons (o := _) rfl (fun K0 hK0 => ?_) AllReadyH.nil
    go_simp
    refine hK0.out _ _ (KY.out _ ((BV.out.setCell (p := ⟨g6, 2, none⟩) Z6.out _).setCell (p := ⟨g6, 5, none⟩) Z6.out _)) (fun hHeld => ?_)
    clear hK0 K0
    try simp only [Act.put, List.getElem_toArray, List.getElem_cons_succ, List.getElem_cons_zero, List.setIfInBounds_toArray, List.set_cons_zero, List.set_cons_succ]
    refine wpAnyH_done (by kernel_rfl) ?_ _
    obtain ⟨w9, hw9⟩ : ∃ w9, w9 = (v1.setCell ⟨g6, 2, none⟩ (.int .i64 y0)).setCell ⟨g6, 5, none⟩ (.slice A8 m c8) := ⟨_, rfl⟩
    have K7 := heap_setCell_same v1 g6 2 _ _ (.int .i64 y0) KV.out
    have K9 : Hid (w9.heap[g6]? = some (.cells #[.int .i64 u0, .bool u1, .int .i64 y0, .int .i64 u3, .slice A' n' c', .slice A8 m c8] 30 (0, 0))) := by show _ = _; rw [hw9]; exact heap_setCell_same _ _ 5 _ _ _ K7
    have G9 : Hid (tq = 0 → u0 = 0 ∧ u1 = tg ∧ u3 = to ∧ OR 2 1 w9 w.heap.size A' n' c' tl) := fun hq => (let ⟨a, b, _, d, e, _⟩ := GV.out hq; ⟨a, b, d, by rw [hw9]; exact OR.mono (OR.setOther6 (OR.setOther6 e KV.out (by decide) 2 _) K7 (by decide) 5 _) (by have := Z1.out; omega)⟩)
    have P9 : Hid (OR 2 1 w9 w.heap.size A8 m c8 (ys.drop 1)) := by rw [hw9]; exact OR.mono (OR.setOther6 (OR.setOther6 O8.out KV.out (by decide) 2 _) K7 (by decide) 5 _) (by have := VZ.out; have := Z1.out; omega)
    have B9 : Hid (Below w1.heap.size w1 w9) := by rw [hw9]; exact (BV.out.setCell (p := ⟨g6, 2, none⟩) Z6.out _).setCell (p := ⟨g6, 5, none⟩) Z6.out _
    have HW9 := Lib.hid hw9
    clear hw9 K7 s2 s5 t2' t5'
    go_upto_region 5 with (fail)
    rw [← HW9.out]
    clear HW9
    have s0 := cell_of_row w9 _ 0 _ _ _ K9.out; have s1 := cell_of_row w9 _ 1 _ _ _ K9.out; have s2 := cell_of_row w9 _ 2 _ _ _ K9.out; have s3 := cell_of_row w9 _ 3 _ _ _ K9.out; have s4 := cell_of_row w9 _ 4 _ _ _ K9.out; have s5 := cell_of_row w9 _ 5 _ _ _ K9.out
    simp at s0 s1 s2 s3 s4 s5
    have RB := KR.out w9 B9.out
    have r0 := cell_of_row w9 _ 0 _ _ _ RB; have f0 := frozen_of_row w9 _ 0 _ _ RB
    have r1 := cell_of_row w9 _ 1 _ _ _ RB; have f1 := frozen_of_row w9 _ 1 _ _ RB
    have r2 := cell_of_row w9 _ 2 _ _ _ RB; have f2 := frozen_of_row w9 _ 2 _ _ RB
    have r3 := cell_of_row w9 _ 3 _ _ _ RB; have f3 := frozen_of_row w9 _ 3 _ _ RB
    have r4 := cell_of_row w9 _ 4 _ _ _ RB; have f4 := frozen_of_row w9 _ 4 _ _ RB
    have r5 := cell_of_row w9 _ 5 _ _ _ RB; have f5 := frozen_of_row w9 _ 5 _ _ RB
    simp at r0 r1 r2 r3 r4 r5
    have HRB := Lib.hid RB
    clear RB
    go_wp2
    refine bodyPost_ret (results_row_err rfl _ _ _ _ _ (0, 0) _ rfl (set6_block HRB.out _ _ _ _ _ _) Tryd.underlying30 rfl (by kernel_rfl) _ rfl) rfl ?_
    by_cases hq : tq = 0
    · obtain ⟨rfl, rfl, rfl, ho⟩ := G9.out hq
      subst hq
      rw [HB.out, if_neg (by simp)]
      have EM := EY.out
      have EL : m = (ys.drop 1).length := by simp [EM]
      have EA := OR.len ho
      have P9' := P9.out
      rw [Nat.mul_one] at EA
      rw [← EA] at ho ⊢
      rw [EL] at P9' ⊢
      have hev : er6 E 0 = .nilIface := rfl
      rw [HEV.out, hev]
      exact ta_box HRB.out (by omega) (FIN.out _ B9.out) (0, u1, y0, u3, tl, ys.drop 1) rfl ho P9' (PV.out rfl)
    · rw [HB.out, if_pos hq, HEV.out]
      exact .inr ⟨hq, _, _, _, _, _, _, _, _, _, _, rfl, below_six (FIN.out _ B9.out) (by omega) _ _ _ _ _ _⟩

end Go.Proofs.YtachpoehejdpjaaDoor
