/-
  The model's act. No conditions beyond that the kernel is one of the call's own and right, and the act is right.
-/
import Derived.BigRegion
import Derived.BigQuiet
import Derived.StillTailTactics
import Derived.Laws.Tables
import Derived.Test.YtckapndpefkcgaaGreatTick3
import Derived.Test.YtckapndpefkcgaaGreatSpec3b
import Derived.Test.YtckapndpefkcgaaGreatAcc2
import Derived.Test.YtckapndpefkcgaaGreatOwn4
import Derived.Test.YtckapndpefkcgaaGreatU8s
set_option maxHeartbeats 1000000

namespace Go.Proofs.YtckapndpefkcgaaGreat
open List renaming getElem_toArray → zz1, getElem_cons_succ → zz2, getElem_cons_zero → zz3, setIfInBounds_toArray → zz4, set_cons_zero → zz5, set_cons_succ → zz6
open Go.RowKit
set_option maxRecDepth 100000

theorem specSlot_any {w : World} {g : Nat} {p : Kp} {K : Ker} (h : KB w g p K) (t : TK K) :
    Calls Tryz.prog 106 #[.pointer (some ⟨g, 0, none⟩)] w fun e w' => e = .returned (.int .i64 ((K.tick / 9) % (K.os.length : Int))) ∧ Kept [] w w' := by
  obtain ⟨q0, q1, q2, q3, q4⟩ := h.cells
  have hl := h.own.l1
  obtain ⟨a, ha⟩ : ∃ a, a = K.tick / 9 := ⟨_, rfl⟩
  obtain ⟨s, hs⟩ : ∃ s, s = a % (K.os.length : Int) := ⟨_, rfl⟩
  have t1 := t.tick
  have t2 := t.l1
  have h1 : K.tick.tdiv 9 = a := by rw [ha]; exact Int.tdiv_eq_ediv_of_nonneg t1.1
  have h2 : IntKind.i64.wrap a = a := IntWalk.i64_in _ (by omega)
  have h3 : a.tmod (p.n1 : Int) = s := by rw [hs, hl]; exact Int.tmod_eq_emod_of_nonneg (by omega)
  have sl := t.slot
  have h4 : IntKind.i64.wrap s = s := IntWalk.i64_in _ (by rw [hs, ha]; omega)
  have hn : ¬ ((p.n1 : Int) = 0) := by omega
  have hn' : p.n1 ≠ 0 := by omega
  have HS := Lib.hid (show s = (K.tick / 9) % (K.os.length : Int) by rw [hs, ha])
  have KK := Lib.hid (show ∀ n, Kept [] w (w.drewN n) from fun n => (Kept.refl [] w).drewN n)
  clear ha hs t1 t2 sl hl t h
  go_enter Tryz.func106, Tryz.ntmps106
  go_wp2_with fail
  go_quiet (fail)
  go_wp2
  go_ret
  exact ⟨ret_i64 HS.out, KK.out _⟩

set_option maxHeartbeats 1000000 in
theorem specPut_any {w : World} {g : Nat} {p : Kp} {K : Ker} (h : KB w g p K) (e : Nat) (he : e < 4) (r : R2) :
    Calls Tryz.prog 151 #[.pointer (some ⟨g, 0, none⟩), .int .i64 (e : Int), rv2 r] w fun e' w' => e' = .returned (.tuple #[]) ∧ KB w' g p (put3 K e r) ∧ Kept [p.g3] w w' := by
  obtain ⟨q, u, x, y, d, b, rfl⟩ := six r
  rw [rv_eq]
  obtain ⟨w1, hw1⟩ : ∃ w1, w1 = w.alloc (.cells #[.int .i64 q, .int .i64 u, .int .i64 x, .int .i64 y, .int .i64 d, .bool b] 163) := ⟨_, rfl⟩
  have k1 : w1.heap[w.heap.size]? = some (.cells #[.int .i64 q, .int .i64 u, .int .i64 x, .int .i64 y, .int .i64 d, .bool b] 163 (0, 0)) := by rw [hw1]; exact heap_alloc_new w _
  have X1 := Lib.hid (show Kept [] w w1 by rw [hw1]; exact (Kept.refl _ _).alloc _)
  have H1 := Lib.hid (h.kept X1.out (by simp) (by simp) (by simp) (by simp))
  have b0 := cell_of_row w1 _ 0 _ _ _ k1; have b1 := cell_of_row w1 _ 1 _ _ _ k1; have b2 := cell_of_row w1 _ 2 _ _ _ k1; have b3 := cell_of_row w1 _ 3 _ _ _ k1; have b4 := cell_of_row w1 _ 4 _ _ _ k1
  simp at b0 b1 b2 b3 b4
  obtain ⟨q0, q1, q2, q3, q4⟩ := H1.out.cells
  obtain ⟨o3, hA3, hR3⟩ := H1.out.accs
  have HA3 := Lib.hid hA3
  rw [hA3] at q2
  have c0 : w1.cell? ⟨p.g3, o3 + e * 4, none⟩ = some (.int .i64 (gi K.ac (e * 4))) := hR3.cell (k := e * 4) (by omega)
  have c1 : w1.cell? ⟨p.g3, o3 + e * 4 + 1, none⟩ = some (.int .i64 (gi K.ac (e * 4 + 1))) := hR3.cell (k := e * 4 + 1) (by omega)
  have c2 : w1.cell? ⟨p.g3, o3 + e * 4 + 2, none⟩ = some (.int .i64 (gi K.ac (e * 4 + 2))) := hR3.cell (k := e * 4 + 2) (by omega)
  have c3 : w1.cell? ⟨p.g3, o3 + e * 4 + 3, none⟩ = some (.int .i64 (gi K.ac (e * 4 + 3))) := hR3.cell (k := e * 4 + 3) (by omega)
  have f0 := hR3.frozen (o3 + e * 4); have f1 := hR3.frozen (o3 + e * 4 + 1); have f2 := hR3.frozen (o3 + e * 4 + 2); have f3 := hR3.frozen (o3 + e * 4 + 3)
  have z0 : (0 : Int) ≤ (e : Int) := by omega
  have z1 : (e : Int) < 4 := by omega
  have HW1 := Lib.hid hw1
  clear k1 hw1 h hA3 hR3 q0 q1 q3 q4
  by_cases hq : q = 0
  · subst hq
    have PE : Hid (put3 K e (0, u, x, y, d, b) = { K with ac := setAcc K.ac e u x y d }) := by show _ = _; unfold put3; rw [if_pos rfl]
    go_enter Tryz.func151, Tryz.ntmps151
    go_upto_region 1 with (fail)
    rw [← HW1.out]
    clear HW1
    go_wp2_with fail
    go_region
    all_goals
      go_end0
      exact ⟨rfl, by rw [PE.out]; exact (H1.out.setAccount HA3.out he u x y d).drew, ((X1.out.mono (by simp)).set4 (by simp) _ _ _ _).drew⟩
  · have PE : Hid (put3 K e (q, u, x, y, d, b) = K) := by show _ = _; unfold put3; rw [if_neg hq]
    go_enter Tryz.func151, Tryz.ntmps151
    go_upto_region 1 with (fail)
    rw [← HW1.out]
    clear HW1
    go_wp2
    go_end0
    exact ⟨rfl, by rw [PE.out]; exact H1.out, X1.out.mono (by simp)⟩



set_option maxHeartbeats 2000000 in
theorem specBegin_any {w : World} {g : Nat} {p : Kp} {K : Ker} (h : KB w g p K) (t : TK K) :
    Calls Tryz.prog 117 #[.pointer (some ⟨g, 0, none⟩)] w (fun e w' => ∃ a b c : Int, e = .returned (.agg #[.int .i64 a, .int .i64 b, .int .i64 c]) ∧ (begin3 K).2 = [a, b, c] ∧ KB w' g p (begin3 K).1 ∧ Kept [g, p.g3] w w') := by
  obtain ⟨w1, hw1⟩ : ∃ w1, w1 = w.alloc (.cells #[.int .i64 0, .int .i64 0, .int .i64 0] 96) := ⟨_, rfl⟩
  have RB := Lib.hid (show w1.heap[w.heap.size]? = some (.cells #[.int .i64 0, .int .i64 0, .int .i64 0] 96 (0, 0)) by rw [hw1]; exact heap_alloc_new w _)
  have X1 := Lib.hid (show Kept [g, p.g3] w w1 by rw [hw1]; exact (Kept.refl _ _).alloc _)
  have X0 := Lib.hid (show Kept [] w w1 by rw [hw1]; exact (Kept.refl _ _).alloc _)
  have NE := Lib.hid (show g < w.heap.size ∧ p.g1 < w.heap.size ∧ p.g2 < w.heap.size ∧ p.g3 < w.heap.size from ⟨h.lt, h.lt1 (by have := h.own.l1; have := t.l1; omega), h.lt2.1, h.lt2.2⟩)
  have H1 := Lib.hid (h.kept X0.out (by simp) (by simp) (by simp) (by simp))
  have Z1 := Lib.hid (show w1.heap.size = w.heap.size + 1 by rw [hw1]; simp)
  have TT := Lib.hid t
  have HW1 := Lib.hid hw1
  have SL := Lib.hid t.slot
  have l1 := h.own.l1
  obtain ⟨s, hs⟩ : ∃ s : Nat, s = ((K.tick / 9) % (K.os.length : Int)).toNat := ⟨_, rfl⟩
  have es : (K.tick / 9) % (K.os.length : Int) = (s : Int) := by have := SL.out; omega
  have hsn : s < p.n1 := by have := SL.out; omega
  have HO := Lib.hid (show own3 K = gi K.os s by unfold own3; rw [hs])
  have TO := Lib.hid t.own
  clear hw1 h t
  have z0 : (0 : Int) ≤ (s : Int) := by omega
  have z1 : (s : Int) < (p.n1 : Int) := by omega
  have SC : Hid (∀ W, KB W g p K → Calls Tryz.prog 106 #[.pointer (some ⟨g, 0, none⟩)] W fun e w' => e = .returned (.int .i64 (s : Int)) ∧ Kept [] W w') := fun W hW => by
    have := specSlot_any hW TT.out
    rw [es] at this
    exact this
  obtain ⟨b, off, hA1, _, _, _⟩ := H1.out.own.m1.sl.at_ hsn
  have FC : Hid (∀ W, KB W g p K → (W.cell? ⟨g, 0, none⟩ = some (.slice (some ⟨b, off, none⟩) p.n1 p.c1) ∧ W.cell? ⟨g, 3, none⟩ = some (.int .i64 K.tick)) ∧ W.cell? ⟨b, off + s, none⟩ = some (.int .i64 (own3 K))) := fun W hW => by
    obtain ⟨r0, _, _, r3, _⟩ := hW.cells
    obtain ⟨b', off', hA2, _, _, hc⟩ := hW.own.m1.sl.at_ hsn
    rw [hA1] at hA2 r0
    injection hA2 with hA2
    injection hA2 with e1 e2
    subst e1 e2
    have c := hc s hsn
    rw [← HO.out] at c
    exact ⟨⟨r0, r3⟩, c⟩
  clear hA1 hs es hsn l1
  obtain ⟨⟨q0, q3⟩, c0⟩ := FC.out w1 H1.out
  go_enter Tryz.func117, Tryz.ntmps117
  go_upto_region 1 with (fail)
  rw [← HW1.out]
  clear HW1
  refine wp_region_held_drew (S := fun W => ((W.cell? ⟨g, 0, none⟩ = some (.slice (some ⟨b, off, none⟩) p.n1 p.c1) ∧ W.cell? ⟨g, 3, none⟩ = some (.int .i64 K.tick)) ∧ W.cell? ⟨b, off + s, none⟩ = some (.int .i64 (own3 K)))) (by kernel_rfl) (⟨⟨q0, q3⟩, c0⟩) (fun hHeld => ?_)
  obtain ⟨v0, hv0⟩ : ∃ v0, v0 = w1.drew := ⟨_, rfl⟩
  have BL0 : Hid (Below w1.heap.size w1 v0) := by rw [hv0]; exact Below.drew (Below.refl _ _)
  rw [← hv0] at hHeld ⊢
  clear hv0
  refine tkH 0 ?_ rfl ?_ hHeld ?_; rotate_left; (intro w hSw; (try dsimp only at hSw); go_simp; try with_reducible rfl); try simp only [Act.put, zz1, zz2, zz3, zz4, zz5, zz6]
  refine tkH 1 ?_ rfl ?_ hHeld ?_; rotate_left; (intro w hSw; (try dsimp only at hSw); go_simp; try with_reducible rfl); try simp only [Act.put, zz1, zz2, zz3, zz4, zz5, zz6]
  refine tkH 2 ?_ rfl ?_ hHeld ?_; rotate_left; (intro w hSw; (try dsimp only at hSw); go_simp; try with_reducible rfl); try simp only [Act.put, zz1, zz2, zz3, zz4, zz5, zz6]
  refine tkH 3 ?_ rfl ?_ hHeld ?_; rotate_left; (intro w hSw; (try dsimp only at hSw); go_simp; try with_reducible rfl); try simp only [Act.put, zz1, zz2, zz3, zz4, zz5, zz6]
  refine tkH 4 ?_ rfl ?_ hHeld ?_; rotate_left; (intro w hSw; (try dsimp only at hSw); go_simp; try with_reducible rfl); try simp only [Act.put, zz1, zz2, zz3, zz4, zz5, zz6]
  refine wpAnyH_ready (rs := [5]) (by kernel_rfl) (by simp) ?_
  refine AllReadyH.cons (o := _) rfl (fun K0 hK0 => ?_) AllReadyH.nil
  go_simp
  refine (SC.out v0 (H1.out.kept (Kept.of_below BL0.out []) (by simp) (by simp) (by simp) (by simp))).mono ?_
  rintro e9 w3 ⟨rfl, hk⟩
  have H2 := Lib.hid (H1.out.kept (Kept.of_below BL0.out []) (by simp) (by simp) (by simp) (by simp))
  have H3 := Lib.hid (H2.out.kept hk (by simp) (by simp) (by simp) (by simp))
  have X3 := Lib.hid (X1.out.trans (((Kept.of_below BL0.out []).trans hk).mono (gs' := [g, p.g3]) (by simp)))
  have R3 := Lib.hid ((hk.2 w.heap.size (by have := BL0.out.size; have := Z1.out; omega) (by simp)).trans ((BL0.out.block w.heap.size (by have := Z1.out; omega)).trans RB.out))
  have Z3 := Lib.hid (show w.heap.size < w3.heap.size from (Array.getElem?_eq_some_iff.1 R3.out).1)
  clear hk H2
  go_wp2_with fail
  refine hK0.out _ _ (FC.out _ H3.out) (fun hHeld => ?_)
  clear hK0 K0
  try simp only [Act.put, zz1, zz2, zz3, zz4, zz5, zz6]
  refine tkH 6 ?_ rfl ?_ hHeld ?_; rotate_left; (intro w hSw; (try dsimp only at hSw); go_simp; try with_reducible rfl); try simp only [Act.put, zz1, zz2, zz3, zz4, zz5, zz6]
  refine tkH 7 ?_ rfl ?_ hHeld ?_; rotate_left; (intro w hSw; (try dsimp only at hSw); go_simp; try with_reducible rfl); try simp only [Act.put, zz1, zz2, zz3, zz4, zz5, zz6]
  refine tkH 8 ?_ rfl ?_ hHeld ?_; rotate_left; (intro w hSw; (try dsimp only at hSw); go_simp; try with_reducible rfl); try simp only [Act.put, zz1, zz2, zz3, zz4, zz5, zz6]
  refine wpAnyH_done (by kernel_rfl) ?_ _
  clear q0 q3 c0 H1 X1 RB SC
  obtain ⟨⟨q0, q3⟩, c0⟩ := FC.out w3 H3.out
  go_upto_region 2 with (fail)
  obtain ⟨o, ho⟩ : ∃ o, o = own3 K := ⟨_, rfl⟩
  rw [← ho] at c0 ⊢
  have HOO := Lib.hid ho
  have TO := Lib.hid (show o = -1 ∨ (0 ≤ o ∧ o < 4) by rw [ho]; exact TO.out)
  clear ho
  go_upto_region 4 with (fail)
  obtain ⟨w4, hw4⟩ : ∃ w4, w4 = w3.alloc (.cells #[.int .i64 K.tick, .int .i64 o, .int .i64 1] 96) := ⟨_, rfl⟩
  obtain ⟨b4, hb4⟩ : ∃ b4, b4 = w3.heap.size := ⟨_, rfl⟩
  rw [← hw4, ← hb4]
  have X4 := Lib.hid (show Kept [g, p.g3] w w4 by rw [hw4]; exact X3.out.alloc _)
  have K34 : Kept [] w3 w4 := by rw [hw4]; exact (Kept.refl _ _).alloc _
  have H4 := Lib.hid (H3.out.kept K34 (by simp) (by simp) (by simp) (by simp))
  have R4 := Lib.hid ((K34.2 w.heap.size Z3.out (by simp)).trans R3.out)
  have N4 := Lib.hid (show w4.heap[b4]? = some (.cells #[.int .i64 K.tick, .int .i64 o, .int .i64 1] 96 (0, 0)) by rw [hw4, hb4]; exact heap_alloc_new w3 _)
  have Z4 := Lib.hid (show w.heap.size < b4 by rw [hb4]; exact Z3.out)
  clear hw4 hb4 K34 q0 q3 c0 H3 X3 R3 Z3 FC
  obtain ⟨q0, q1, q2, q3, q4⟩ := H4.out.cells
  by_cases h1 : o = -1
  · have BE : Hid (begin3 K = (K, [K.tick, -1, 3])) := by show _ = _; unfold begin3; rw [← HOO.out, if_pos h1]
    subst h1
    clear q0 q1 q2 q4
    have r4 := R4.out
    have x0 := cell_of_row w4 _ 0 _ _ _ r4; have x1 := cell_of_row w4 _ 1 _ _ _ r4; have x2 := cell_of_row w4 _ 2 _ _ _ r4
    have f0 := frozen_of_row w4 _ 0 _ _ r4; have f1 := frozen_of_row w4 _ 1 _ _ r4; have f2 := frozen_of_row w4 _ 2 _ _ r4
    simp at x0 x1 x2
    clear r4
    go_wp2
    exact bodyPost_ret (results_cell_row rfl _ _ _ _ _ (0, 0) _ rfl (heap_setCell_same _ _ 2 _ _ _ (heap_setCell_same _ _ 1 _ _ _ (heap_setCell_same _ _ 0 _ _ _ R4.out))) Tryz.underlying96 rfl (by kernel_rfl)) rfl ⟨_, _, _, rfl, by rw [BE.out], by rw [BE.out]; exact H4.out.kept ((((Kept.refl [w.heap.size] w4).setCell (p := ⟨w.heap.size, 0, none⟩) (by simp) _).setCell (p := ⟨w.heap.size, 1, none⟩) (by simp) _).setCell (p := ⟨w.heap.size, 2, none⟩) (by simp) _) (by have := NE.out; simp; omega) (by have := NE.out; simp; omega) (by have := NE.out; simp; omega) (by have := NE.out; simp; omega), (((X4.out.setNew (p := ⟨w.heap.size, 0, none⟩) (Nat.le_refl _) _).setNew (p := ⟨w.heap.size, 1, none⟩) (Nat.le_refl _) _).setNew (p := ⟨w.heap.size, 2, none⟩) (Nat.le_refl _) _)⟩
  · obtain ⟨e, he⟩ : ∃ e : Nat, o = (e : Int) := ⟨o.toNat, by have := TO.out; omega⟩
    have he4 : e < 4 := by have := TO.out; omega
    have HE : Hid (own3 K ≠ -1 ∧ (own3 K).toNat = e ∧ own3 K = (e : Int)) := by show _ ∧ _ ∧ _; rw [← HOO.out]; exact ⟨h1, by omega, he⟩
    subst he
    have y0 : (0 : Int) ≤ (e : Int) := by omega
    have y1 : (e : Int) < 4 := by omega
    have y2 : ((e : Int) == -1) = false := by first | (simp; done) | (simp; omega)
    obtain ⟨o3, hA3, hR3⟩ := H4.out.accs
    rw [hA3] at q2
    have HA3 := Lib.hid hA3; have HR3 := Lib.hid hR3
    have a0 : w4.cell? ⟨p.g3, o3 + e * 4, none⟩ = some (.int .i64 (gi K.ac (e * 4))) := hR3.cell (k := e * 4) (by omega)
    have a1 : w4.cell? ⟨p.g3, o3 + e * 4 + 1, none⟩ = some (.int .i64 (gi K.ac (e * 4 + 1))) := hR3.cell (k := e * 4 + 1) (by omega)
    have a2 : w4.cell? ⟨p.g3, o3 + e * 4 + 2, none⟩ = some (.int .i64 (gi K.ac (e * 4 + 2))) := hR3.cell (k := e * 4 + 2) (by omega)
    have a3 : w4.cell? ⟨p.g3, o3 + e * 4 + 3, none⟩ = some (.int .i64 (gi K.ac (e * 4 + 3))) := hR3.cell (k := e * 4 + 3) (by omega)
    clear h1 hA3 hR3
    have n4 := N4.out
    have m0 := cell_of_row w4 _ 0 _ _ _ n4; have m1 := cell_of_row w4 _ 1 _ _ _ n4; have m2 := cell_of_row w4 _ 2 _ _ _ n4
    simp at m0 m1 m2
    clear n4
    by_cases hd : 0 < gi K.ac (e * 4 + 3)
    · have BE : Hid (begin3 K = (put3 K e (acf K e skip2), [K.tick, (e : Int), 2])) := by
        show _ = _
        unfold begin3
        rw [if_neg HE.out.1, HE.out.2.1, if_pos hd, HE.out.2.2]
      clear m0 m1 m2
      go_wp2_with fail
      refine (specSkipAccount_any _ _ _ _ _).mono ?_
      rintro e9 w5 ⟨rfl, hb⟩
      have H5 := Lib.hid (H4.out.kept (Kept.of_below hb []) (by simp) (by simp) (by simp) (by simp))
      have X5 := Lib.hid (X4.out.then_below hb)
      have R5 := Lib.hid ((hb.block w.heap.size (Array.getElem?_eq_some_iff.1 R4.out).1).trans R4.out)
      have N5 := Lib.hid ((hb.block b4 (Array.getElem?_eq_some_iff.1 N4.out).1).trans N4.out)
      clear hb H4 X4 R4 N4 q0 q1 q2 q3 q4 a0 a1 a2 a3 HR3
      go_wp2_with fail
      refine (specPut_any H5.out e he4 _).mono ?_
      rintro e9 w6 ⟨rfl, hh, hk⟩
      have H6 := Lib.hid hh
      have X6 := Lib.hid (X5.out.trans (hk.mono (gs' := [g, p.g3]) (by simp)))
      have R6 := Lib.hid ((hk.2 w.heap.size (Array.getElem?_eq_some_iff.1 R5.out).1 (by have := NE.out; simp; omega)).trans R5.out)
      have N6 := Lib.hid ((hk.2 b4 (Array.getElem?_eq_some_iff.1 N5.out).1 (by have := NE.out; have := Z4.out; simp; omega)).trans N5.out)
      clear hh hk H5 X5 R5 N5
      have n6 := N6.out; have r6 := R6.out
      have m0 := cell_of_row w6 _ 0 _ _ _ n6; have m1 := cell_of_row w6 _ 1 _ _ _ n6; have m2 := cell_of_row w6 _ 2 _ _ _ n6
      have g2 := frozen_of_row w6 _ 2 _ _ n6
      have x0 := cell_of_row w6 _ 0 _ _ _ r6; have x1 := cell_of_row w6 _ 1 _ _ _ r6; have x2 := cell_of_row w6 _ 2 _ _ _ r6
      have f0 := frozen_of_row w6 _ 0 _ _ r6; have f1 := frozen_of_row w6 _ 1 _ _ r6; have f2 := frozen_of_row w6 _ 2 _ _ r6
      simp at m0 m1 m2 x0 x1 x2
      clear n6 r6
      have hne : b4 ≠ w.heap.size := by have := Z4.out; omega
      have hne' : w.heap.size ≠ b4 := by have := Z4.out; omega
      go_wp2
      exact bodyPost_ret (results_cell_row rfl _ _ _ _ _ (0, 0) _ rfl (heap_setCell_same _ _ 2 _ _ _ (heap_setCell_same _ _ 1 _ _ _ (heap_setCell_same _ _ 0 _ _ _ ((Below.heap_setCell w6 ⟨b4, 2, none⟩ (.int .i64 2) _ hne').trans R6.out)))) Tryz.underlying96 rfl (by kernel_rfl)) rfl ⟨_, _, _, rfl, by rw [BE.out], by rw [BE.out]; exact H6.out.kept (((((Kept.refl [w.heap.size, b4] w6).setCell (p := ⟨b4, 2, none⟩) (by simp) _).setCell (p := ⟨w.heap.size, 0, none⟩) (by simp) _).setCell (p := ⟨w.heap.size, 1, none⟩) (by simp) _).setCell (p := ⟨w.heap.size, 2, none⟩) (by simp) _) (by have := NE.out; have := Z4.out; simp; omega) (by have := NE.out; have := Z4.out; simp; omega) (by have := NE.out; have := Z4.out; simp; omega) (by have := NE.out; have := Z4.out; simp; omega), ((((X6.out.setNew (p := ⟨b4, 2, none⟩) (Nat.le_of_lt Z4.out) _).setNew (p := ⟨w.heap.size, 0, none⟩) (Nat.le_refl _) _).setNew (p := ⟨w.heap.size, 1, none⟩) (Nat.le_refl _) _).setNew (p := ⟨w.heap.size, 2, none⟩) (Nat.le_refl _) _)⟩
    · have BE : Hid (begin3 K = ({ K with run := (e : Int) }, [K.tick, (e : Int), 1])) := by
        show _ = _
        unfold begin3
        rw [if_neg HE.out.1, HE.out.2.1, if_neg hd, HE.out.2.2]
      have fg := frozen_of_row w4 _ 4 _ _ H4.out.box
      clear m0 m1 m2
      go_upto_region 9 with (fail)
      obtain ⟨w5, hw5⟩ : ∃ w5, w5 = w4.setCell ⟨g, 4, none⟩ (.int .i64 (e : Int)) := ⟨_, rfl⟩
      rw [← hw5]
      have H5 := Lib.hid (show KB w5 g p { K with run := (e : Int) } by rw [hw5]; exact H4.out.setRun _)
      have X5 := Lib.hid (show Kept [g, p.g3] w w5 by rw [hw5]; exact X4.out.setCell (p := ⟨g, 4, none⟩) (by simp) _)
      have R5 := Lib.hid (show w5.heap[w.heap.size]? = some (.cells #[.int .i64 0, .int .i64 0, .int .i64 0] 96 (0, 0)) by rw [hw5]; exact (Below.heap_setCell w4 ⟨g, 4, none⟩ _ _ (by have := NE.out; show w.heap.size ≠ g; omega)).trans R4.out)
      have N5 := Lib.hid (show w5.heap[b4]? = some (.cells #[.int .i64 K.tick, .int .i64 (e : Int), .int .i64 1] 96 (0, 0)) by rw [hw5]; exact (Below.heap_setCell w4 ⟨g, 4, none⟩ _ _ (by have := NE.out; have := Z4.out; show b4 ≠ g; omega)).trans N4.out)
      clear hw5 q0 q1 q2 q3 q4 fg a0 a1 a2 a3 H4 X4 R4 N4 HR3
      have n6 := N5.out; have r6 := R5.out
      have m0 := cell_of_row w5 _ 0 _ _ _ n6; have m1 := cell_of_row w5 _ 1 _ _ _ n6; have m2 := cell_of_row w5 _ 2 _ _ _ n6
      have x0 := cell_of_row w5 _ 0 _ _ _ r6; have x1 := cell_of_row w5 _ 1 _ _ _ r6; have x2 := cell_of_row w5 _ 2 _ _ _ r6
      have f0 := frozen_of_row w5 _ 0 _ _ r6; have f1 := frozen_of_row w5 _ 1 _ _ r6; have f2 := frozen_of_row w5 _ 2 _ _ r6
      simp at m0 m1 m2 x0 x1 x2
      clear n6 r6
      go_wp2
      exact bodyPost_ret (results_cell_row rfl _ _ _ _ _ (0, 0) _ rfl (heap_setCell_same _ _ 2 _ _ _ (heap_setCell_same _ _ 1 _ _ _ (heap_setCell_same _ _ 0 _ _ _ R5.out))) Tryz.underlying96 rfl (by kernel_rfl)) rfl ⟨_, _, _, rfl, by rw [BE.out], by rw [BE.out]; exact H5.out.kept ((((Kept.refl [w.heap.size, b4] w5).setCell (p := ⟨w.heap.size, 0, none⟩) (by simp) _).setCell (p := ⟨w.heap.size, 1, none⟩) (by simp) _).setCell (p := ⟨w.heap.size, 2, none⟩) (by simp) _) (by have := NE.out; have := Z4.out; simp; omega) (by have := NE.out; have := Z4.out; simp; omega) (by have := NE.out; have := Z4.out; simp; omega) (by have := NE.out; have := Z4.out; simp; omega), (((X5.out.setNew (p := ⟨w.heap.size, 0, none⟩) (Nat.le_refl _) _).setNew (p := ⟨w.heap.size, 1, none⟩) (Nat.le_refl _) _).setNew (p := ⟨w.heap.size, 2, none⟩) (Nat.le_refl _) _)⟩



theorem OR.lit {t : TypeId} {m : Nat} {base : Nat} {xs : List Int} (w : World) (hb : base ≤ w.heap.size) (hx : xs.length = m) : OR t m (w.alloc (.cells (vals xs).toArray t)) base (some ⟨w.heap.size, 0, none⟩) 1 1 xs :=
  ⟨by simp [vals, hx], .inr ⟨w.heap.size, 1, (vals xs).toArray, rfl, hb, heap_alloc_new _ _, Nat.le_refl _, by simp [maxLen], by simp [vals, hx], by rw [Nat.one_mul]; exact List.take_of_length_le (by simp [vals, hx])⟩⟩

set_option maxHeartbeats 4000000 in
theorem specAct_any {w : World} {g : Nat} {p : Kp} {K : Ker} (h : KB w g p K) (t : TK K) (hr : K.run ≠ -1) (ga oa : Nat) (k to : Int) (ht : 0 ≤ to ∧ to < 4) (hga : ga ≠ g ∧ ga ≠ p.g3) (hc0 : w.cell? ⟨ga, oa, none⟩ = some (.int .i64 k)) (hc1 : w.cell? ⟨ga, oa + 1, none⟩ = some (.int .i64 to)) :
    Calls Tryz.prog 118 #[.pointer (some ⟨g, 0, none⟩), .pointer (some ⟨ga, oa, none⟩)] w (fun e w' => ∃ A n c, e = .returned (.slice A n c) ∧ OR 96 3 w' w.heap.size A n c (act3 K k to).2 ∧ KB w' g p (act3 K k to).1 ∧ Kept [g, p.g3] w w') := by
  have TT := Lib.hid t
  obtain ⟨ph, hph⟩ : ∃ ph, ph = K.tick % 9 := ⟨_, rfl⟩
  have PH : Hid (∀ W, KB W g p K → Calls Tryz.prog 105 #[.pointer (some ⟨g, 0, none⟩)] W fun e w' => e = .returned (.int .i64 ph) ∧ W = w') := fun W hW => by
    rw [hph]; exact specPhase_any g K.tick W t.tick.1 hW.cells.2.2.2.1
  have HPH := Lib.hid hph
  have LA := Lib.hid (World.block_lt_of_cell? _ _ hc0)
  have AK : Hid (∀ W, Kept [g, p.g3] w W → (W.cell? ⟨ga, oa, none⟩ = some (.int .i64 k) ∧ W.cell? ⟨ga, oa + 1, none⟩ = some (.int .i64 to))) := fun W hW => by
    have e : W.heap[ga]? = w.heap[ga]? := hW.2 ga LA.out (by simp; omega)
    exact ⟨(World.cell?_of_block (a := ⟨ga, oa, none⟩) e).trans hc0, (World.cell?_of_block (a := ⟨ga, oa + 1, none⟩) e).trans hc1⟩
  have H1 := Lib.hid h
  obtain ⟨tn, htn⟩ : ∃ tn : Nat, to = (tn : Int) := ⟨to.toNat, by omega⟩
  have ht4 : tn < 4 := by omega
  have NE := Lib.hid (show g < w.heap.size ∧ p.g1 < w.heap.size ∧ p.g2 < w.heap.size ∧ p.g3 < w.heap.size from ⟨h.lt, h.lt1 (by have := h.own.l1; have := t.l1; omega), h.lt2.1, h.lt2.2⟩)
  obtain ⟨q0, q1, q2, q3, q4⟩ := h.cells
  have c0 := hc0; have c1 := hc1
  obtain ⟨rn, hrn⟩ : ∃ rn : Nat, K.run = (rn : Int) := ⟨K.run.toNat, by have := t.run; omega⟩
  have hr4 : rn < 4 := by have := t.run; omega
  have HRN := Lib.hid hrn
  have HTN := Lib.hid htn
  clear hph hc0 hc1 h t hr
  by_cases hk2 : k = 2
  · have PE : Hid (act3 K k to = ({ K with run := -1 }, [K.tick, K.run, 5])) := by show _ = _; unfold act3; rw [if_pos hk2]
    have fg := frozen_of_row w _ 4 _ _ H1.out.box
    subst hk2
    clear hrn htn
    go_enter Tryz.func118, Tryz.ntmps118
    go_wp2_with fail
    refine (PH.out _ H1.out).mono ?_
    rintro e9 w2 ⟨rfl, rfl⟩
    go_upto_region 5 with (fail)
    obtain ⟨w3, hw3⟩ : ∃ w3, w3 = w.setCell ⟨g, 4, none⟩ (.int .i64 (-1)) := ⟨_, rfl⟩
    rw [← hw3]
    have H3 := Lib.hid (show KB w3 g p { K with run := -1 } by rw [hw3]; exact H1.out.setRun _)
    have X3 := Lib.hid (show Kept [g, p.g3] w w3 by rw [hw3]; exact (Kept.refl _ _).setCell (p := ⟨g, 4, none⟩) (by simp) _)
    clear hw3 q0 q1 q2 q3 q4 fg c0 c1 H1
    obtain ⟨q0, q1, q2, q3, q4⟩ := H3.out.cells
    go_wp2
    go_ret
    refine ⟨_, _, _, rfl, ?_, by rw [PE.out]; exact H3.out.kept ((Kept.refl [] w3).alloc _) (by simp) (by simp) (by simp) (by simp), X3.out.alloc _⟩
    rw [PE.out]
    exact OR.lit w3 X3.out.1.size rfl
  · have hk2' : (k == 2) = false := by simp [hk2]
    subst htn
    obtain ⟨Y, hY⟩ : ∃ Y : Bool, Y = decide (k = 3 ∧ ph < 6 ∧ gb K.al tn = true ∧ (tn : Int) ≠ K.run) := ⟨_, rfl⟩
    have YE := Lib.hid hY
    clear hY
    obtain ⟨o2, hA2, hR2⟩ := H1.out.alive
    rw [hA2] at q1
    have al0 := hR2.cell (k := tn) ht4
    have z0 : (0 : Int) ≤ (tn : Int) := by omega
    have z1 : (tn : Int) < 4 := by omega
    have HRN' := HRN
    clear hrn hA2 hR2
    go_enter Tryz.func118, Tryz.ntmps118
    go_wp2_with fail
    refine (PH.out _ H1.out).mono ?_
    rintro e9 w2 ⟨rfl, rfl⟩
    go_upto_region 6 with (fail)
    obtain ⟨L, hL⟩ : ∃ L : Bool, L = decide (6 ≤ ph) := ⟨_, rfl⟩
    rw [← hL]
    have HL := Lib.hid hL
    clear hL
    go_cut [30] from 31 (fun x wx => x = .bool Y ∧ Kept [] w wx)
    case first => as_aux_lemma =>
      by_cases hk3 : k = 3
      · have g1 : (k == 3) = true := by simp [hk3]
        have HK3 := Lib.hid hk3
        clear hk3
        rcases L with _ | _
        · have hl : ph < 6 := by have := HL.out; simpa using this.symm
          have HLL := Lib.hid hl
          clear hl
          rcases ha : gb K.al tn with _ | _
          · have y : Y = false := by rw [YE.out]; exact decide_eq_false (fun hh => by rw [ha] at hh; exact absurd hh.2.2.1 (by decide))
            subst y
            rw [ha] at al0
            clear ha
            go_quiet (fail)
            go_wp2_with fail
            go_meet
            exact ⟨rfl, (Kept.refl [] w).drewN _⟩
          · by_cases hrr : (tn : Int) = K.run
            · have y : Y = false := by rw [YE.out]; exact decide_eq_false (fun hh => hh.2.2.2 hrr)
              have g3 : ((tn : Int) != K.run) = false := by simp [hrr]
              subst y
              rw [ha] at al0
              clear ha hrr
              go_quiet (fail)
              go_wp2_with fail
              go_meet
              exact ⟨rfl, (Kept.refl [] w).drewN _⟩
            · have y : Y = true := by rw [YE.out]; exact decide_eq_true ⟨HK3.out, HLL.out, ha, hrr⟩
              have g3 : ((tn : Int) != K.run) = true := by simp [hrr]
              subst y
              rw [ha] at al0
              clear ha hrr
              go_quiet (fail)
              go_wp2_with fail
              go_meet
              exact ⟨rfl, (Kept.refl [] w).drewN _⟩
        · have hl : 6 ≤ ph := by have := HL.out; simpa using this.symm
          have y : Y = false := by rw [YE.out]; exact decide_eq_false (fun hh => by have := hh.2.1; omega)
          subst y
          clear hl
          go_quiet (fail)
          go_wp2_with fail
          go_meet
          exact ⟨rfl, (Kept.refl [] w).drewN _⟩
      · have g1 : (k == 3) = false := by simp [hk3]
        have y : Y = false := by rw [YE.out]; exact decide_eq_false (fun hh => hk3 hh.1)
        subst y
        clear hk3
        go_quiet (fail)
        go_wp2_with fail
        go_meet
        exact ⟨rfl, (Kept.refl [] w).drewN _⟩
    case rest => as_aux_lemma =>
      obtain ⟨rfl, hkk⟩ := hcut
      have H2 := Lib.hid (H1.out.kept hkk (by simp) (by simp) (by simp) (by simp))
      have X2 := Lib.hid (show Kept [g, p.g3] w wc from hkk.mono (by simp))
      clear hkk q0 q1 q2 q3 q4 c0 c1 al0 H1
      obtain ⟨q0, q1, q2, q3, q4⟩ := H2.out.cells
      obtain ⟨c0, c1⟩ := AK.out _ X2.out
      obtain ⟨o3, hA3, hR3⟩ := H2.out.accs
      have HA3 := Lib.hid hA3
      rw [hA3] at q2
      by_cases hy : k = 3 ∧ ph < 6 ∧ gb K.al tn = true ∧ (tn : Int) ≠ K.run
      · have y : Y = true := by rw [YE.out]; exact decide_eq_true hy
        have PE : Hid (act3 K k (tn : Int) = (put3 { K with run := (tn : Int) } tn (acf K tn give2), [K.tick, (tn : Int), 4])) := by
          show _ = _
          unfold act3
          rw [if_neg hk2, ← HPH.out, Int.toNat_natCast, if_pos ⟨hy.1, by have := hy.2.1; omega, hy.2.2.1, hy.2.2.2⟩]
        subst y
        have fg := frozen_of_row wc _ 4 _ _ H2.out.box
        clear hA3 hR3 hy q0 q1 q3
        go_upto_region 8 with (fail)
        obtain ⟨w4, hw4⟩ : ∃ w4, w4 = wc.setCell ⟨g, 4, none⟩ (.int .i64 (tn : Int)) := ⟨_, rfl⟩
        rw [← hw4]
        have H4 := Lib.hid (show KB w4 g p { K with run := (tn : Int) } by rw [hw4]; exact H2.out.setRun _)
        have X4 := Lib.hid (show Kept [g, p.g3] w w4 by rw [hw4]; exact X2.out.setCell (p := ⟨g, 4, none⟩) (by simp) _)
        have SK : Hid (∀ W, Kept [p.g3] w4 W → (W.cell? ⟨g, 2, none⟩ = some (.slice (some ⟨p.g3, o3, none⟩) 4 p.c3) ∧ W.cell? ⟨ga, oa, none⟩ = some (.int .i64 k) ∧ W.cell? ⟨ga, oa + 1, none⟩ = some (.int .i64 (tn : Int)))) := fun W hW => by
          obtain ⟨e1, e2⟩ := AK.out W (X4.out.trans (hW.mono (gs' := [g, p.g3]) (by simp)))
          have e3 := (hW.2 g H4.out.lt (by have := H4.out.e3; simp; exact this)).trans H4.out.box
          have e4 := cell_of_row W _ 2 _ _ _ e3
          rw [HA3.out] at e4
          exact ⟨e4, e1, e2⟩
        clear hw4 fg q2 q4 c0 c1 H2 X2
        obtain ⟨q2, ac0, ac1⟩ := SK.out w4 (Kept.refl _ _)
        refine wp_region_held_drew (S := fun W => (W.cell? ⟨g, 2, none⟩ = some (.slice (some ⟨p.g3, o3, none⟩) 4 p.c3) ∧ W.cell? ⟨ga, oa, none⟩ = some (.int .i64 k) ∧ W.cell? ⟨ga, oa + 1, none⟩ = some (.int .i64 (tn : Int)))) (by kernel_rfl) (⟨q2, ac0, ac1⟩) (fun hHeld => ?_)
        obtain ⟨v0, hv0⟩ : ∃ v0, v0 = w4.drew := ⟨_, rfl⟩
        have BL0 : Hid (Below w4.heap.size w4 v0) := by rw [hv0]; exact Below.drew (Below.refl _ _)
        rw [← hv0] at hHeld ⊢
        clear hv0
        refine tkH 0 ?_ rfl ?_ hHeld ?_; rotate_left; (intro w hSw; (try dsimp only at hSw); go_simp; try with_reducible rfl); try simp only [Act.put, zz1, zz2, zz3, zz4, zz5, zz6]
        refine tkH 1 ?_ rfl ?_ hHeld ?_; rotate_left; (intro w hSw; (try dsimp only at hSw); go_simp; try with_reducible rfl); try simp only [Act.put, zz1, zz2, zz3, zz4, zz5, zz6]
        refine tkH 2 ?_ rfl ?_ hHeld ?_; rotate_left; (intro w hSw; (try dsimp only at hSw); go_simp; try with_reducible rfl); try simp only [Act.put, zz1, zz2, zz3, zz4, zz5, zz6]
        refine tkH 3 ?_ rfl ?_ hHeld ?_; rotate_left; (intro w hSw; (try dsimp only at hSw); go_simp; try with_reducible rfl); try simp only [Act.put, zz1, zz2, zz3, zz4, zz5, zz6]
        refine tkH 4 ?_ rfl ?_ hHeld ?_; rotate_left; (intro w hSw; (try dsimp only at hSw); go_simp; try with_reducible rfl); try simp only [Act.put, zz1, zz2, zz3, zz4, zz5, zz6]
        refine tkH 5 ?_ rfl ?_ hHeld ?_; rotate_left; (intro w hSw; (try dsimp only at hSw); go_simp; try with_reducible rfl); try simp only [Act.put, zz1, zz2, zz3, zz4, zz5, zz6]
        refine tkH 6 ?_ rfl ?_ hHeld ?_; rotate_left; (intro w hSw; (try dsimp only at hSw); go_simp; try with_reducible rfl); try simp only [Act.put, zz1, zz2, zz3, zz4, zz5, zz6]
        refine tkH 7 ?_ rfl ?_ hHeld ?_; rotate_left; (intro w hSw; (try dsimp only at hSw); go_simp; try with_reducible rfl); try simp only [Act.put, zz1, zz2, zz3, zz4, zz5, zz6]
        refine tkH 8 ?_ rfl ?_ hHeld ?_; rotate_left; (intro w hSw; (try dsimp only at hSw); go_simp; try with_reducible rfl); try simp only [Act.put, zz1, zz2, zz3, zz4, zz5, zz6]
        refine tkH 9 ?_ rfl ?_ hHeld ?_; rotate_left; (intro w hSw; (try dsimp only at hSw); go_simp; try with_reducible rfl); try simp only [Act.put, zz1, zz2, zz3, zz4, zz5, zz6]
        refine tkH 10 ?_ rfl ?_ hHeld ?_; rotate_left; (intro w hSw; (try dsimp only at hSw); go_simp; try with_reducible rfl); try simp only [Act.put, zz1, zz2, zz3, zz4, zz5, zz6]
        refine tkH 11 ?_ rfl ?_ hHeld ?_; rotate_left; (intro w hSw; (try dsimp only at hSw); go_simp; try with_reducible rfl); try simp only [Act.put, zz1, zz2, zz3, zz4, zz5, zz6]
        refine tkH 12 ?_ rfl ?_ hHeld ?_; rotate_left; (intro w hSw; (try dsimp only at hSw); go_simp; try with_reducible rfl); try simp only [Act.put, zz1, zz2, zz3, zz4, zz5, zz6]
        refine tkH 13 ?_ rfl ?_ hHeld ?_; rotate_left; (intro w hSw; (try dsimp only at hSw); go_simp; try with_reducible rfl); try simp only [Act.put, zz1, zz2, zz3, zz4, zz5, zz6]
        refine wpAnyH_ready (rs := [14]) (by kernel_rfl) (by simp) ?_
        refine AllReadyH.cons (o := _) rfl (fun K0 hK0 => ?_) AllReadyH.nil
        have H5 := Lib.hid (H4.out.kept (Kept.of_below BL0.out []) (by simp) (by simp) (by simp) (by simp))
        obtain ⟨o3', hA3', hR3'⟩ := H5.out.accs
        obtain rfl : o3 = o3' := by rw [HA3.out] at hA3'; injection hA3' with e1; injection e1
        have d0 : v0.cell? ⟨p.g3, o3 + tn * 4, none⟩ = some (.int .i64 (gi K.ac (tn * 4))) := hR3'.cell (k := tn * 4) (by omega)
        have d1 : v0.cell? ⟨p.g3, o3 + tn * 4 + 1, none⟩ = some (.int .i64 (gi K.ac (tn * 4 + 1))) := hR3'.cell (k := tn * 4 + 1) (by omega)
        have d2 : v0.cell? ⟨p.g3, o3 + tn * 4 + 2, none⟩ = some (.int .i64 (gi K.ac (tn * 4 + 2))) := hR3'.cell (k := tn * 4 + 2) (by omega)
        have d3 : v0.cell? ⟨p.g3, o3 + tn * 4 + 3, none⟩ = some (.int .i64 (gi K.ac (tn * 4 + 3))) := hR3'.cell (k := tn * 4 + 3) (by omega)
        clear hA3' hR3'
        go_simp
        refine hK0.out _ _ (SK.out _ (Kept.of_below BL0.out _)) (fun hHeld => ?_)
        clear hK0 K0
        try simp only [Act.put, zz1, zz2, zz3, zz4, zz5, zz6]
        refine wpAnyH_ready (rs := [15]) (by kernel_rfl) (by simp) ?_
        refine AllReadyH.cons (o := _) rfl (fun K0 hK0 => ?_) AllReadyH.nil
        go_simp
        clear d0 d1 d2 d3
        refine (specGiveTick_any _ _ _ _ _).mono ?_
        rintro e9 v1 ⟨rfl, hb⟩
        have B1 := Lib.hid (BL0.out.trans (hb.mono BL0.out.size))
        have H6 := Lib.hid (H5.out.kept (Kept.of_below hb []) (by simp) (by simp) (by simp) (by simp))
        clear hb H5
        go_wp2_with fail
        refine hK0.out _ _ (SK.out _ (Kept.of_below B1.out _)) (fun hHeld => ?_)
        clear hK0 K0
        try simp only [Act.put, zz1, zz2, zz3, zz4, zz5, zz6]
        refine wpAnyH_ready (rs := [16]) (by kernel_rfl) (by simp) ?_
        refine AllReadyH.cons (o := _) rfl (fun K0 hK0 => ?_) AllReadyH.nil
        go_simp
        refine (specPut_any H6.out tn (by omega) _).mono ?_
        rintro e9 v2 ⟨rfl, hh, hk⟩
        have H7 := Lib.hid hh
        have K7 := Lib.hid ((Kept.of_below B1.out [p.g3]).trans hk)
        clear hh hk H6
        go_wp2_with fail
        refine hK0.out _ _ (SK.out _ K7.out) (fun hHeld => ?_)
        clear hK0 K0
        try simp only [Act.put, zz1, zz2, zz3, zz4, zz5, zz6]
        refine wpAnyH_done (by kernel_rfl) ?_ _
        have X7 := Lib.hid (X4.out.trans (K7.out.mono (gs' := [g, p.g3]) (by simp)))
        clear q2 ac0 ac1 BL0 K7 H4 X4 SK
        obtain ⟨c0, c1⟩ := AK.out _ X7.out
        obtain ⟨q0, q1, q2, q3, q4⟩ := H7.out.cells
        have PT : Hid ((put3 { K with run := (tn : Int) } tn (acf K tn give2)).tick = K.tick) := (put3_os _ _ _).2.2.1
        have q3' : v2.cell? ⟨g, 3, none⟩ = some (.int .i64 K.tick) := by rw [← PT.out]; exact q3
        clear q0 q1 q2 q3 q4
        have S9K : Hid (∀ W, Kept [] v2 W → (W.cell? ⟨g, 3, none⟩ = some (.int .i64 K.tick) ∧ W.cell? ⟨ga, oa + 1, none⟩ = some (.int .i64 (tn : Int)))) := fun W hW =>
          ⟨(World.cell?_of_block (a := ⟨g, 3, none⟩) (hW.2 g H7.out.lt (by simp))).trans q3', (AK.out W (X7.out.trans (hW.mono (gs' := [g, p.g3]) (by simp)))).2⟩
        go_upto_region 9 with (fail)
        refine wp_region_held_drew (S := fun W => (W.cell? ⟨g, 3, none⟩ = some (.int .i64 K.tick) ∧ W.cell? ⟨ga, oa + 1, none⟩ = some (.int .i64 (tn : Int)))) (by kernel_rfl) (⟨q3', c1⟩) (fun hHeld => ?_)
        obtain ⟨v0, hv0⟩ : ∃ v0, v0 = v2.drew := ⟨_, rfl⟩
        have BL0 : Hid (Below v2.heap.size v2 v0) := by rw [hv0]; exact Below.drew (Below.refl _ _)
        rw [← hv0] at hHeld ⊢
        clear hv0
        refine tkH 0 ?_ rfl ?_ hHeld ?_; rotate_left; (intro w hSw; (try dsimp only at hSw); go_simp; try with_reducible rfl); try simp only [Act.put, zz1, zz2, zz3, zz4, zz5, zz6]
        refine tkH 1 ?_ rfl ?_ hHeld ?_; rotate_left; (intro w hSw; (try dsimp only at hSw); go_simp; try with_reducible rfl); try simp only [Act.put, zz1, zz2, zz3, zz4, zz5, zz6]
        refine tkH 2 ?_ rfl ?_ hHeld ?_; rotate_left; (intro w hSw; (try dsimp only at hSw); go_simp; try with_reducible rfl); try simp only [Act.put, zz1, zz2, zz3, zz4, zz5, zz6]
        refine tkH 3 ?_ rfl ?_ hHeld ?_; rotate_left; (intro w hSw; (try dsimp only at hSw); go_simp; try with_reducible rfl); try simp only [Act.put, zz1, zz2, zz3, zz4, zz5, zz6]
        refine tkH 4 ?_ rfl ?_ hHeld ?_; rotate_left; (intro w hSw; (try dsimp only at hSw); go_simp; try with_reducible rfl); try simp only [Act.put, zz1, zz2, zz3, zz4, zz5, zz6]
        refine tkH 5 ?_ rfl ?_ hHeld ?_; rotate_left; (intro w hSw; (try dsimp only at hSw); go_simp; try with_reducible rfl); try simp only [Act.put, zz1, zz2, zz3, zz4, zz5, zz6]
        refine tkH 6 ?_ rfl ?_ hHeld ?_; rotate_left; (intro w hSw; (try dsimp only at hSw); go_simp; try with_reducible rfl); try simp only [Act.put, zz1, zz2, zz3, zz4, zz5, zz6]
        refine tkH 7 ?_ rfl ?_ hHeld ?_; rotate_left; (intro w hSw; (try dsimp only at hSw); go_simp; try with_reducible rfl); try simp only [Act.put, zz1, zz2, zz3, zz4, zz5, zz6]
        refine tkH 8 ?_ rfl ?_ hHeld ?_; rotate_left; (intro w hSw; (try dsimp only at hSw); go_simp; try with_reducible rfl); try simp only [Act.put, zz1, zz2, zz3, zz4, zz5, zz6]
        refine wpAnyH_ready (rs := [9]) (by kernel_rfl) (by simp) ?_
        refine AllReadyH.cons (o := _) rfl (fun K0 hK0 => ?_) AllReadyH.nil
        go_simp
        refine hK0.out _ _ (S9K.out _ ((Kept.of_below BL0.out []).alloc _)) (fun hHeld => ?_)
        clear hK0 K0
        try simp only [Act.put, zz1, zz2, zz3, zz4, zz5, zz6]
        refine tkH 10 ?_ rfl ?_ hHeld ?_; rotate_left; (intro w hSw; (try dsimp only at hSw); go_simp; try with_reducible rfl); try simp only [Act.put, zz1, zz2, zz3, zz4, zz5, zz6]
        refine wpAnyH_done (by kernel_rfl) ?_ _
        have X8 := Lib.hid (X7.out.trans ((Kept.of_below BL0.out []).mono (gs' := [g, p.g3]) (by simp)))
        have H8 := Lib.hid (H7.out.kept (Kept.of_below BL0.out []) (by simp) (by simp) (by simp) (by simp))
        go_wp2
        go_ret
        refine ⟨_, _, _, rfl, ?_, by rw [PE.out]; exact H8.out.kept ((Kept.refl [] v0).alloc _) (by simp) (by simp) (by simp) (by simp), X8.out.alloc _⟩
        rw [PE.out]
        exact OR.lit v0 X8.out.1.size rfl
      · have y : Y = false := by rw [YE.out]; exact decide_eq_false hy
        have PE : Hid (act3 K k (tn : Int) = (put3 K rn (acf K rn (fun u x g d => use2 u x g d L)), [])) := by
          show _ = _
          unfold act3
          rw [if_neg hk2, ← HPH.out, ← HL.out, if_neg (fun hh => hy ⟨hh.1, by have := hh.2.1; omega, by have := hh.2.2.1; simpa using this, hh.2.2.2⟩), HRN.out, Int.toNat_natCast]
        subst y
        have hrn : K.run = (rn : Int) := HRN.out
        have y0 : (0 : Int) ≤ (rn : Int) := by omega
        have y1 : (rn : Int) < 4 := by omega
        have U : Hid (wc.cell? ⟨p.g3, o3 + rn * 4, none⟩ = some (.int .i64 (gi K.ac (rn * 4)))) := hR3.cell (k := rn * 4) (by omega)
        have a0 := U.out
        have a1 : wc.cell? ⟨p.g3, o3 + rn * 4 + 1, none⟩ = some (.int .i64 (gi K.ac (rn * 4 + 1))) := hR3.cell (k := rn * 4 + 1) (by omega)
        have a2 : wc.cell? ⟨p.g3, o3 + rn * 4 + 2, none⟩ = some (.int .i64 (gi K.ac (rn * 4 + 2))) := hR3.cell (k := rn * 4 + 2) (by omega)
        have a3 : wc.cell? ⟨p.g3, o3 + rn * 4 + 3, none⟩ = some (.int .i64 (gi K.ac (rn * 4 + 3))) := hR3.cell (k := rn * 4 + 3) (by omega)
        clear hA3 hR3 hy
        go_wp2_with fail
        refine (specUseTick_any _ _ _ _ _ _).mono ?_
        rintro e9 w5 ⟨rfl, hb⟩
        have H5 := Lib.hid (H2.out.kept (Kept.of_below hb []) (by simp) (by simp) (by simp) (by simp))
        have X5 := Lib.hid (X2.out.then_below hb)
        clear hb H2 X2 q0 q1 q2 q3 q4 c0 c1 a0 a1 a2 a3
        go_wp2_with fail
        refine (specPut_any H5.out rn hr4 _).mono ?_
        rintro e9 w6 ⟨rfl, hh, hkk⟩
        have H6 := Lib.hid hh
        have X6 := Lib.hid (X5.out.trans (hkk.mono (gs' := [g, p.g3]) (by simp)))
        clear hh hkk H5 X5
        go_wp2
        go_ret
        exact ⟨none, 0, 0, rfl, by rw [PE.out]; exact OR.void _ _, by rw [PE.out]; exact H6.out, X6.out⟩

end Go.Proofs.YtckapndpefkcgaaGreat
