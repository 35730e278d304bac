/-
  The walk of FnExactDoCall: whatever the kernel and the call that came in, it returns true.
-/
import Derived.Test.YtbodmjdniblhgaaKit3c
import Derived.Test.YtbodmjdniblhgaaKernelFaultW
import Derived.Test.YtbodmjdniblhgaaAnsAt3
import Derived.Test.YtbodmjdniblhgaaCallW
namespace Go.Proofs.Ytbodmjdniblhgaa
open Go.RowKit
set_option maxRecDepth 100000

set_option maxHeartbeats 16000000 in
theorem walkDoCall (A1 : Option Addr) (n1 c1 : Nat) (A2 : Option Addr) (n2 c2 : Nat) (A3 : Option Addr) (n3 c3 : Nat) (K : Ker) (kk e s to : Int) (w : World) (h : KRead w 0 w.heap.size A1 n1 A2 n2 A3 n3 K)
    (b1 : n1 ≤ 9223372036854775807) (b2 : n2 ≤ 9223372036854775807) (b3 : n3 ≤ 9223372036854775807) :
    Calls Try.prog 3 #[.agg #[.slice A1 n1 c1, .slice A2 n2 c2, .slice A3 n3 c3, .int .i64 K.tick, .int .i64 K.run], .agg #[.int .i64 kk, .int .i64 e, .int .i64 s, .int .i64 to]] w fun e w' => e = .returned (.bool true) ∧ Below w.heap.size w w' := by
  obtain ⟨w1, hW1⟩ : ∃ w1, w1 = (w.alloc (.cells #[.slice A1 n1 c1, .slice A2 n2 c2, .slice A3 n3 c3, .int .i64 K.tick, .int .i64 K.run] 26)).alloc (.cells #[.int .i64 kk, .int .i64 e, .int .i64 s, .int .i64 to] 28) := ⟨_, rfl⟩
  have k1 : w1.heap[w.heap.size]? = some (.cells #[.slice A1 n1 c1, .slice A2 n2 c2, .slice A3 n3 c3, .int .i64 K.tick, .int .i64 K.run] 26 (0, 0)) := by rw [hW1]; exact heap_alloc2_old w _ _
  have k2 : w1.heap[w.heap.size + 1]? = some (.cells #[.int .i64 kk, .int .i64 e, .int .i64 s, .int .i64 to] 28 (0, 0)) := by rw [hW1]; exact heap_alloc2_new w _ _
  have B1 : Hid (Below w.heap.size w w1) := by rw [hW1]; exact (below_new w _).alloc (by simp) _
  have sz : w1.heap.size = w.heap.size + 2 := by rw [hW1]; simp
  have RK := Lib.hid ((h.below B1.out (Nat.le_refl _)).wide (Nat.le_refl 0) (show w.heap.size ≤ w1.heap.size by omega))
  have HLK := Lib.hid h.1
  have QS : Hid (∀ W, Below w1.heap.size w1 W → (W.cell? ⟨w.heap.size, 0, none⟩ = some (.slice A1 n1 c1) ∧ W.cell? ⟨w.heap.size, 1, none⟩ = some (.slice A2 n2 c2) ∧ W.cell? ⟨w.heap.size, 2, none⟩ = some (.slice A3 n3 c3) ∧ W.cell? ⟨w.heap.size, 3, none⟩ = some (.int .i64 K.tick) ∧ W.cell? ⟨w.heap.size, 4, none⟩ = some (.int .i64 K.run)) ∧ (W.cell? ⟨w.heap.size + 1, 0, none⟩ = some (.int .i64 kk) ∧ W.cell? ⟨w.heap.size + 1, 1, none⟩ = some (.int .i64 e) ∧ W.cell? ⟨w.heap.size + 1, 2, none⟩ = some (.int .i64 s) ∧ W.cell? ⟨w.heap.size + 1, 3, none⟩ = some (.int .i64 to))) := fun W hB => by
    have j1 := (hB.block w.heap.size (by omega)).trans k1
    have j2 := (hB.block (w.heap.size + 1) (by omega)).trans k2
    exact ⟨⟨cell_of_row W _ 0 _ _ _ j1, cell_of_row W _ 1 _ _ _ j1, cell_of_row W _ 2 _ _ _ j1, cell_of_row W _ 3 _ _ _ j1, cell_of_row W _ 4 _ _ _ j1⟩, ⟨cell_of_row W _ 0 _ _ _ j2, cell_of_row W _ 1 _ _ _ j2, cell_of_row W _ 2 _ _ _ j2, cell_of_row W _ 3 _ _ _ j2⟩⟩
  have R0 : Hid (Below w1.heap.size w1 w1) := Below.refl _ _
  have FIN : Hid (∀ W, Below w1.heap.size w1 W → Below w.heap.size w W) := fun W hW => B1.out.trans (hW.mono (by omega))
  have Z1 := Lib.hid (szKernel_any A1 n1 c1 A2 n2 c2 A3 n3 c3 K.tick K.run 1048576 w1 (by omega) (by omega) b1 b2 b3)
  obtain ⟨_, y2⟩ := szk_le0 1048576 n1 n2 n3 (by omega)
  have Y2 := Lib.hid y2
  clear h k1 k2 b1 b2 b3 y2
  obtain ⟨⟨q0, q1, q2, q3, q4⟩, p0, p1, p2, p3⟩ := QS.out w1 R0.out
  go_enter Try.func3, Try.ntmps3
  go_upto_region 1 with (fail)
  rw [← hW1]
  clear hW1 sz
  go_wp2_with fail
  refine Z1.out.mono ?_
  rintro e9 w2 ⟨rfl, hb⟩
  have R2 := Lib.hid hb
  obtain ⟨⟨q0, q1, q2, q3, q4⟩, p0, p1, p2, p3⟩ := QS.out w2 hb
  clear hb Z1
  by_cases hs : szk 1048576 n1 n2 n3 < 0
  · go_wp2
    go_ret
    exact ⟨rfl, FIN.out _ R2.out⟩
  have SM := Lib.hid (show n1 + n2 + n3 ≤ 1048576 by have := Y2.out (by omega); omega)
  clear Y2
  go_upto_region 5 with (fail)
  have TKM : Hid (∀ W, Below w2.heap.size w2 W → Calls Try.prog 6 #[.agg #[.slice A1 n1 c1, .slice A2 n2 c2, .slice A3 n3 c3, .int .i64 K.tick, .int .i64 K.run]] W fun e w' => ∃ u1 u2 u3, e = .returned (.agg #[.slice (some ⟨u1, 0, none⟩) n1 n1, .slice (some ⟨u2, 0, none⟩) n2 n2, .slice (some ⟨u3, 0, none⟩) n3 n3, .int .i64 K.tick, .int .i64 K.run]) ∧ (W.heap.size < u1 ∧ u1 < u2 ∧ u2 < u3 ∧ u3 < w'.heap.size) ∧ (Mine w' u1 (u1 + 1) 2 (some ⟨u1, 0, none⟩) n1 (fun k => .int .i64 (gi K.os k)) ∧ Mine w' u2 (u2 + 1) 4 (some ⟨u2, 0, none⟩) n2 (fun k => .bool (gb K.al k)) ∧ Mine w' u3 (u3 + 1) 75 (some ⟨u3, 0, none⟩) (n3 * 4) (fun k => .int .i64 (gi K.ac k))) ∧ Below W.heap.size W w') := fun W hW =>
    (toKernel_any 0 w1.heap.size A1 n1 c1 A2 n2 c2 A3 n3 c3 K.tick K.run K W (by have := SM.out; omega) (by have := SM.out; omega) (by have := SM.out; omega) (RK.out.below (R2.out.trans (hW.mono R2.out.size)) (Nat.le_refl _))).mono fun e w' ⟨u1, u2, u3, he, hz, m1, m2, m3, hb⟩ => ⟨u1, u2, u3, he, hz, ⟨.inr ⟨u1, 0, rfl, Nat.le_refl _, Nat.lt_succ_self _, m1⟩, .inr ⟨u2, 0, rfl, Nat.le_refl _, Nat.lt_succ_self _, m2⟩, .inr ⟨u3, 0, rfl, Nat.le_refl _, Nat.lt_succ_self _, m3⟩⟩, hb⟩
  have TK : Hid (∀ W, Below w2.heap.size w2 W → Calls Try.prog 6 #[.agg #[.slice A1 n1 c1, .slice A2 n2 c2, .slice A3 n3 c3, .int .i64 K.tick, .int .i64 K.run]] W fun e w' => ∃ u1 u2 u3, e = .returned (.agg #[.slice (some ⟨u1, 0, none⟩) n1 n1, .slice (some ⟨u2, 0, none⟩) n2 n2, .slice (some ⟨u3, 0, none⟩) n3 n3, .int .i64 K.tick, .int .i64 K.run]) ∧ KRead w' 0 w'.heap.size (some ⟨u1, 0, none⟩) n1 (some ⟨u2, 0, none⟩) n2 (some ⟨u3, 0, none⟩) n3 K ∧ Below w2.heap.size w2 w' ∧ Below W.heap.size W w') := fun W hW =>
    (TKM.out W hW).mono fun e w' ⟨u1, u2, u3, he, ⟨z1, z2, z3, z4⟩, ⟨m1, m2, m3⟩, hb⟩ => ⟨u1, u2, u3, he, ⟨HLK.out, m1.sl.wide (by omega) (by omega), m2.sl.wide (by omega) (by omega), m3.sl.wide (by omega) (by omega)⟩, hW.trans (hb.mono hW.size), hb⟩
  have KS : Hid (∀ W, Below w2.heap.size w2 W → ((W.cell? ⟨w.heap.size, 0, none⟩ = some (.slice A1 n1 c1) ∧ W.cell? ⟨w.heap.size, 1, none⟩ = some (.slice A2 n2 c2) ∧ W.cell? ⟨w.heap.size, 2, none⟩ = some (.slice A3 n3 c3) ∧ W.cell? ⟨w.heap.size, 3, none⟩ = some (.int .i64 K.tick) ∧ W.cell? ⟨w.heap.size, 4, none⟩ = some (.int .i64 K.run)) ∧ (W.cell? ⟨w.heap.size + 1, 0, none⟩ = some (.int .i64 kk) ∧ W.cell? ⟨w.heap.size + 1, 1, none⟩ = some (.int .i64 e) ∧ W.cell? ⟨w.heap.size + 1, 2, none⟩ = some (.int .i64 s) ∧ W.cell? ⟨w.heap.size + 1, 3, none⟩ = some (.int .i64 to)))) := fun W hW => QS.out W (R2.out.trans (hW.mono R2.out.size))
  obtain ⟨dn, hdn⟩ : ∃ dn : List Int, dn = [] := ⟨_, rfl⟩
  have SPD : Hid (∀ W u1 u2 u3 g, KRead W 0 g (some ⟨u1, 0, none⟩) n1 (some ⟨u2, 0, none⟩) n2 (some ⟨u3, 0, none⟩) n3 K → Calls Try.prog 5 #[.agg #[.slice (some ⟨u1, 0, none⟩) n1 n1, .slice (some ⟨u2, 0, none⟩) n2 n2, .slice (some ⟨u3, 0, none⟩) n3 n3, .int .i64 K.tick, .int .i64 K.run], .agg #[.int .i64 kk, .int .i64 e, .int .i64 s, .int .i64 to]] W (KAns (docall K kk e s to).1 (docall K kk e s to).2 dn W)) := fun W u1 u2 u3 g hk => hdn ▸
    specDoCall_any 0 g _ n1 n1 _ n2 n2 _ n3 n3 K.tick K.run K kk e s to W (by have := SM.out; omega) (by have := SM.out; omega) hk (fun h => by cases h) rfl rfl
  have IPD : Hid (∀ W u1 u2 u3 g, KRead W 0 g (some ⟨u1, 0, none⟩) n1 (some ⟨u2, 0, none⟩) n2 (some ⟨u3, 0, none⟩) n3 K → Calls Try.prog 8 #[.agg #[.slice (some ⟨u1, 0, none⟩) n1 n1, .slice (some ⟨u2, 0, none⟩) n2 n2, .slice (some ⟨u3, 0, none⟩) n3 n3, .int .i64 K.tick, .int .i64 K.run], .agg #[.int .i64 kk, .int .i64 e, .int .i64 s, .int .i64 to]] W (KAns (docall K kk e s to).1 (docall K kk e s to).2 dn W)) := fun W u1 u2 u3 g hk => hdn ▸
    implDoCall_any 0 g _ n1 n1 _ n2 n2 _ n3 n3 K kk e s to W (by have := SM.out; omega) hk
  have SD := Lib.hid (show (docall K kk e s to).2.os.length ≤ 12 ∧ (docall K kk e s to).2.al.length ≤ 4 ∧ (docall K kk e s to).2.ac.length ≤ 16 ∧ dn.length ≤ 3000000 by rw [hdn]; exact ⟨(docall_small K kk e s to).1, (docall_small K kk e s to).2.1, (docall_small K kk e s to).2.2, by simp⟩)
  clear hdn
  generalize (docall K kk e s to).1 = dq at *
  generalize (docall K kk e s to).2 = dK at *
  go_cut [6] from 13 (fun x wx => ∃ gb, x = .pointer (some ⟨gb, 0, none⟩) ∧ AnsAt w2 gb dq dK dn wx)
  case first => as_aux_lemma =>
    refine wp_region_held_drew (S := fun W => ((W.cell? ⟨w.heap.size, 0, none⟩ = some (.slice A1 n1 c1) ∧ W.cell? ⟨w.heap.size, 1, none⟩ = some (.slice A2 n2 c2) ∧ W.cell? ⟨w.heap.size, 2, none⟩ = some (.slice A3 n3 c3) ∧ W.cell? ⟨w.heap.size, 3, none⟩ = some (.int .i64 K.tick) ∧ W.cell? ⟨w.heap.size, 4, none⟩ = some (.int .i64 K.run)) ∧ (W.cell? ⟨w.heap.size + 1, 0, none⟩ = some (.int .i64 kk) ∧ W.cell? ⟨w.heap.size + 1, 1, none⟩ = some (.int .i64 e) ∧ W.cell? ⟨w.heap.size + 1, 2, none⟩ = some (.int .i64 s) ∧ W.cell? ⟨w.heap.size + 1, 3, none⟩ = some (.int .i64 to)))) (by kernel_rfl) (KS.out _ (Below.drew (Below.refl _ _))) (fun hHeld => ?_)
    obtain ⟨v0, hv0⟩ : ∃ v0, v0 = w2.drew := ⟨_, rfl⟩
    have BL0 : Hid (Below w2.heap.size w2 v0) := by rw [hv0]; exact Below.drew (Below.refl _ _)
    rw [← hv0] at hHeld ⊢
    clear hv0
    refine wpAnyH_take (i := 0) (oi := _) (v := ?_) rfl (by kernel_rfl) (by kernel_rfl) (by kernel_rfl) (fun _ _ _ h => h) (Or.inl ⟨by rfl, ?_⟩) hHeld ?_
    rotate_left
    · (intro w hSw; (try dsimp only at hSw); go_simp; try with_reducible rfl)
    try simp only [Act.put, List.setIfInBounds_toArray, List.set_cons_zero, List.set_cons_succ]
    refine wpAnyH_take (i := 2) (oi := _) (v := ?_) rfl (by kernel_rfl) (by kernel_rfl) (by kernel_rfl) (fun _ _ _ h => h) (Or.inl ⟨by rfl, ?_⟩) hHeld ?_
    rotate_left
    · (intro w hSw; (try dsimp only at hSw); go_simp; try with_reducible rfl)
    try simp only [Act.put, List.setIfInBounds_toArray, List.set_cons_zero, List.set_cons_succ]
    refine wpAnyH_ready (rs := [1, 5]) (by kernel_rfl) (by simp) ?_
    refine AllReadyH.cons (o := _) rfl (fun K0 hK0 => ?_) (AllReadyH.cons (o := _) rfl (fun K0 hK0 => ?_) (AllReadyH.nil))
    · go_simp
      refine (TK.out _ BL0.out).mono ?_
      rintro e9 v1 ⟨u1, u2, u3, rfl, hku, hb1, hb2⟩
      go_wp2_with fail
      have KR1 := Lib.hid hku
      obtain ⟨hk, hhk⟩ : ∃ hk, hk = v1.heap.size := ⟨_, rfl⟩
      rw [← hhk] at KR1
      have HK1 := Lib.hid (show hk ≤ v1.heap.size by omega)
      clear hku hb1 hhk
      have BL1 := Lib.hid (BL0.out.trans (hb2.mono BL0.out.size))
      clear hb2
      refine hK0.out _ _ (KS.out _ BL1.out) (fun hHeld => ?_)
      clear hK0 K0
      try simp only [Act.put, List.setIfInBounds_toArray, List.set_cons_zero, List.set_cons_succ]
      refine wpAnyH_ready (rs := [3, 5]) (by kernel_rfl) (by simp) ?_
      refine AllReadyH.cons (o := _) rfl (fun K0 hK0 => ?_) (AllReadyH.cons (o := _) rfl (fun K0 hK0 => ?_) (AllReadyH.nil))
      · go_simp
        refine (toCall_any kk e s to _).mono ?_
        rintro e9 v2 ⟨rfl, hb2⟩
        go_wp2_with fail
        have BL2 := Lib.hid (BL1.out.trans (hb2.mono BL1.out.size))
        have KR2 := Lib.hid (KR1.out.below hb2 HK1.out)
        have HK2 := Lib.hid (Nat.le_trans HK1.out hb2.size)
        clear hb2
        refine hK0.out _ _ (KS.out _ BL2.out) (fun hHeld => ?_)
        clear hK0 K0
        try simp only [Act.put, List.setIfInBounds_toArray, List.set_cons_zero, List.set_cons_succ]
        refine wpAnyH_ready (rs := [4, 5]) (by kernel_rfl) (by simp) ?_
        refine AllReadyH.cons (o := _) rfl (fun K0 hK0 => ?_) (AllReadyH.cons (o := _) rfl (fun K0 hK0 => ?_) (AllReadyH.nil))
        · go_simp
          refine (SPD.out v2 u1 u2 u3 _ KR2.out).mono ?_
          rintro e9 v3 ⟨p, rfl, ho, hb2⟩
          unfold Rp.val
          go_wp2_with fail
          have OW3 := Lib.hid ho
          have ZS := Lib.hid (show w2.heap.size ≤ v2.heap.size ∧ v2.heap.size ≤ v3.heap.size from ⟨BL2.out.size, hb2.size⟩)
          have ZE3 := Lib.hid (show v3.heap.size ≤ v3.heap.size from Nat.le_refl _)
          clear ho
          have BL3 := Lib.hid (BL2.out.trans (hb2.mono BL2.out.size))
          have KR3 := Lib.hid (KR2.out.below hb2 HK2.out)
          have HK3 := Lib.hid (Nat.le_trans HK2.out hb2.size)
          clear hb2
          refine hK0.out _ _ (KS.out _ BL3.out) (fun hHeld => ?_)
          clear hK0 K0
          try simp only [Act.put, List.setIfInBounds_toArray, List.set_cons_zero, List.set_cons_succ]
          refine wpAnyH_ready (rs := [5]) (by kernel_rfl) (by simp) ?_
          refine AllReadyH.cons (o := _) rfl (fun K0 hK0 => ?_) (AllReadyH.nil)
          · go_simp
            obtain ⟨v4, hv⟩ : ∃ v4, v4 = v3.alloc (.cells #[.int .i64 0, .slice none 0 0, .slice none 0 0, .slice none 0 0, .int .i64 0, .int .i64 0, .slice none 0 0] 35) := ⟨_, rfl⟩
            obtain ⟨gb, hgb⟩ : ∃ gb, gb = v3.heap.size := ⟨_, rfl⟩
            rw [← hv, ← hgb]
            have XB4 : Hid (v4.heap[gb]? = some (.cells #[.int .i64 0, .slice none 0 0, .slice none 0 0, .slice none 0 0, .int .i64 0, .int .i64 0, .slice none 0 0] 35 (0, 0))) := by rw [hv, hgb]; exact heap_alloc_new v3 _
            have hb2 : Below v3.heap.size v3 v4 := by rw [hv]; exact below_new v3 _
            have GB := Lib.hid (show w2.heap.size ≤ gb ∧ v3.heap.size ≤ gb ∧ gb < v4.heap.size by have := BL3.out.size; rw [hv, hgb]; simp; omega)
            clear hv hgb
            have GS := Lib.hid (show v3.heap.size ≤ gb by have := ZE3.out; have := GB.out; omega)
            have BL4 := Lib.hid (BL3.out.trans (hb2.mono BL3.out.size))
            have KR4 := Lib.hid (KR3.out.below hb2 HK3.out)
            have HK4 := Lib.hid (Nat.le_trans HK3.out hb2.size)
            have OW4 := Lib.hid (OW3.out.kep (Kept.of_below hb2 []) (by simp) (by simp) (by simp) (by simp))
            have ZE4 := Lib.hid (Nat.le_trans ZE3.out hb2.size)
            clear hb2
            refine hK0.out _ _ (KS.out _ BL4.out) (fun hHeld => ?_)
            clear hK0 K0
            try simp only [Act.put, List.setIfInBounds_toArray, List.set_cons_zero, List.set_cons_succ]
            refine wpAnyH_ready (rs := [6]) (by kernel_rfl) (by simp) ?_
            refine AllReadyH.cons (o := _) rfl (fun K0 hK0 => ?_) AllReadyH.nil
            have FA := Lib.hid (ansAt_of (w := w2) (q := dq) XB4.out OW4.out (.inr GS.out) (by have := ZS.out; omega) (by have := ZE4.out; omega) (by have := GB.out; omega) BL4.out)
            have KF := Lib.hid (KS.out _ (by obtain ⟨_, _, _, _, _, h⟩ := FA.out; exact h))
            clear hHeld
            rw [if_pos (by rfl)]
            refine wp_store_row 35 _ _ rfl gb _ rfl rfl 35 _ XB4.out (by kernel_rfl) rfl (by simp [Value.oneCell']) ?_
            refine hK0.out _ _ KF.out (fun hHeld => ?_)
            clear hK0 K0
            refine wpAnyH_done (by kernel_rfl) ?_ _
            go_wp2_with fail
            go_meet
            with_reducible exact ⟨_, rfl, FA.out⟩
        · go_simp
          obtain ⟨v5, hv⟩ : ∃ v5, v5 = v2.alloc (.cells #[.int .i64 0, .slice none 0 0, .slice none 0 0, .slice none 0 0, .int .i64 0, .int .i64 0, .slice none 0 0] 35) := ⟨_, rfl⟩
          obtain ⟨gb, hgb⟩ : ∃ gb, gb = v2.heap.size := ⟨_, rfl⟩
          rw [← hv, ← hgb]
          have XB5 : Hid (v5.heap[gb]? = some (.cells #[.int .i64 0, .slice none 0 0, .slice none 0 0, .slice none 0 0, .int .i64 0, .int .i64 0, .slice none 0 0] 35 (0, 0))) := by rw [hv, hgb]; exact heap_alloc_new v2 _
          have hb2 : Below v2.heap.size v2 v5 := by rw [hv]; exact below_new v2 _
          have GB := Lib.hid (show w2.heap.size ≤ gb ∧ v2.heap.size ≤ gb ∧ gb < v5.heap.size by have := BL2.out.size; rw [hv, hgb]; simp; omega)
          clear hv hgb
          have BL5 := Lib.hid (BL2.out.trans (hb2.mono BL2.out.size))
          have KR5 := Lib.hid (KR2.out.below hb2 HK2.out)
          have HK5 := Lib.hid (Nat.le_trans HK2.out hb2.size)
          clear hb2
          refine hK0.out _ _ (KS.out _ BL5.out) (fun hHeld => ?_)
          clear hK0 K0
          try simp only [Act.put, List.setIfInBounds_toArray, List.set_cons_zero, List.set_cons_succ]
          refine wpAnyH_ready (rs := [4]) (by kernel_rfl) (by simp) ?_
          refine AllReadyH.cons (o := _) rfl (fun K0 hK0 => ?_) (AllReadyH.nil)
          · go_simp
            have GS := Lib.hid (show gb < v5.heap.size from (Array.getElem?_eq_some_iff.1 XB5.out).1)
            refine (SPD.out v5 u1 u2 u3 _ KR5.out).mono ?_
            rintro e9 v6 ⟨p, rfl, ho, hb2⟩
            unfold Rp.val
            go_wp2_with fail
            have OW6 := Lib.hid ho
            have ZS := Lib.hid (show w2.heap.size ≤ v5.heap.size ∧ v5.heap.size ≤ v6.heap.size from ⟨BL5.out.size, hb2.size⟩)
            have ZE6 := Lib.hid (show v6.heap.size ≤ v6.heap.size from Nat.le_refl _)
            clear ho
            have BL6 := Lib.hid (BL5.out.trans (hb2.mono BL5.out.size))
            have XB6 := Lib.hid ((hb2.block gb (Array.getElem?_eq_some_iff.1 XB5.out).1).trans XB5.out)
            have KR6 := Lib.hid (KR5.out.below hb2 HK5.out)
            have HK6 := Lib.hid (Nat.le_trans HK5.out hb2.size)
            clear hb2
            refine hK0.out _ _ (KS.out _ BL6.out) (fun hHeld => ?_)
            clear hK0 K0
            try simp only [Act.put, List.setIfInBounds_toArray, List.set_cons_zero, List.set_cons_succ]
            refine wpAnyH_ready (rs := [6]) (by kernel_rfl) (by simp) ?_
            refine AllReadyH.cons (o := _) rfl (fun K0 hK0 => ?_) AllReadyH.nil
            have FA := Lib.hid (ansAt_of (w := w2) (q := dq) XB6.out OW6.out (.inl GS.out) (by have := ZS.out; omega) (by have := ZE6.out; omega) (by have := GB.out; omega) BL6.out)
            have KF := Lib.hid (KS.out _ (by obtain ⟨_, _, _, _, _, h⟩ := FA.out; exact h))
            clear hHeld
            rw [if_pos (by rfl)]
            refine wp_store_row 35 _ _ rfl gb _ rfl rfl 35 _ XB6.out (by kernel_rfl) rfl (by simp [Value.oneCell']) ?_
            refine hK0.out _ _ KF.out (fun hHeld => ?_)
            clear hK0 K0
            refine wpAnyH_done (by kernel_rfl) ?_ _
            go_wp2_with fail
            go_meet
            with_reducible exact ⟨_, rfl, FA.out⟩
      · go_simp
        obtain ⟨v7, hv⟩ : ∃ v7, v7 = v1.alloc (.cells #[.int .i64 0, .slice none 0 0, .slice none 0 0, .slice none 0 0, .int .i64 0, .int .i64 0, .slice none 0 0] 35) := ⟨_, rfl⟩
        obtain ⟨gb, hgb⟩ : ∃ gb, gb = v1.heap.size := ⟨_, rfl⟩
        rw [← hv, ← hgb]
        have XB7 : Hid (v7.heap[gb]? = some (.cells #[.int .i64 0, .slice none 0 0, .slice none 0 0, .slice none 0 0, .int .i64 0, .int .i64 0, .slice none 0 0] 35 (0, 0))) := by rw [hv, hgb]; exact heap_alloc_new v1 _
        have hb2 : Below v1.heap.size v1 v7 := by rw [hv]; exact below_new v1 _
        have GB := Lib.hid (show w2.heap.size ≤ gb ∧ v1.heap.size ≤ gb ∧ gb < v7.heap.size by have := BL1.out.size; rw [hv, hgb]; simp; omega)
        clear hv hgb
        have BL7 := Lib.hid (BL1.out.trans (hb2.mono BL1.out.size))
        have KR7 := Lib.hid (KR1.out.below hb2 HK1.out)
        have HK7 := Lib.hid (Nat.le_trans HK1.out hb2.size)
        clear hb2
        refine hK0.out _ _ (KS.out _ BL7.out) (fun hHeld => ?_)
        clear hK0 K0
        try simp only [Act.put, List.setIfInBounds_toArray, List.set_cons_zero, List.set_cons_succ]
        refine wpAnyH_ready (rs := [3]) (by kernel_rfl) (by simp) ?_
        refine AllReadyH.cons (o := _) rfl (fun K0 hK0 => ?_) (AllReadyH.nil)
        · go_simp
          refine (toCall_any kk e s to _).mono ?_
          rintro e9 v8 ⟨rfl, hb2⟩
          go_wp2_with fail
          have BL8 := Lib.hid (BL7.out.trans (hb2.mono BL7.out.size))
          have XB8 := Lib.hid ((hb2.block gb (Array.getElem?_eq_some_iff.1 XB7.out).1).trans XB7.out)
          have KR8 := Lib.hid (KR7.out.below hb2 HK7.out)
          have HK8 := Lib.hid (Nat.le_trans HK7.out hb2.size)
          clear hb2
          refine hK0.out _ _ (KS.out _ BL8.out) (fun hHeld => ?_)
          clear hK0 K0
          try simp only [Act.put, List.setIfInBounds_toArray, List.set_cons_zero, List.set_cons_succ]
          refine wpAnyH_ready (rs := [4]) (by kernel_rfl) (by simp) ?_
          refine AllReadyH.cons (o := _) rfl (fun K0 hK0 => ?_) (AllReadyH.nil)
          · go_simp
            have GS := Lib.hid (show gb < v8.heap.size from (Array.getElem?_eq_some_iff.1 XB8.out).1)
            refine (SPD.out v8 u1 u2 u3 _ KR8.out).mono ?_
            rintro e9 v9 ⟨p, rfl, ho, hb2⟩
            unfold Rp.val
            go_wp2_with fail
            have OW9 := Lib.hid ho
            have ZS := Lib.hid (show w2.heap.size ≤ v8.heap.size ∧ v8.heap.size ≤ v9.heap.size from ⟨BL8.out.size, hb2.size⟩)
            have ZE9 := Lib.hid (show v9.heap.size ≤ v9.heap.size from Nat.le_refl _)
            clear ho
            have BL9 := Lib.hid (BL8.out.trans (hb2.mono BL8.out.size))
            have XB9 := Lib.hid ((hb2.block gb (Array.getElem?_eq_some_iff.1 XB8.out).1).trans XB8.out)
            have KR9 := Lib.hid (KR8.out.below hb2 HK8.out)
            have HK9 := Lib.hid (Nat.le_trans HK8.out hb2.size)
            clear hb2
            refine hK0.out _ _ (KS.out _ BL9.out) (fun hHeld => ?_)
            clear hK0 K0
            try simp only [Act.put, List.setIfInBounds_toArray, List.set_cons_zero, List.set_cons_succ]
            refine wpAnyH_ready (rs := [6]) (by kernel_rfl) (by simp) ?_
            refine AllReadyH.cons (o := _) rfl (fun K0 hK0 => ?_) AllReadyH.nil
            have FA := Lib.hid (ansAt_of (w := w2) (q := dq) XB9.out OW9.out (.inl GS.out) (by have := ZS.out; omega) (by have := ZE9.out; omega) (by have := GB.out; omega) BL9.out)
            have KF := Lib.hid (KS.out _ (by obtain ⟨_, _, _, _, _, h⟩ := FA.out; exact h))
            clear hHeld
            rw [if_pos (by rfl)]
            refine wp_store_row 35 _ _ rfl gb _ rfl rfl 35 _ XB9.out (by kernel_rfl) rfl (by simp [Value.oneCell']) ?_
            refine hK0.out _ _ KF.out (fun hHeld => ?_)
            clear hK0 K0
            refine wpAnyH_done (by kernel_rfl) ?_ _
            go_wp2_with fail
            go_meet
            with_reducible exact ⟨_, rfl, FA.out⟩
    · go_simp
      obtain ⟨v10, hv⟩ : ∃ v10, v10 = v0.alloc (.cells #[.int .i64 0, .slice none 0 0, .slice none 0 0, .slice none 0 0, .int .i64 0, .int .i64 0, .slice none 0 0] 35) := ⟨_, rfl⟩
      obtain ⟨gb, hgb⟩ : ∃ gb, gb = v0.heap.size := ⟨_, rfl⟩
      rw [← hv, ← hgb]
      have XB10 : Hid (v10.heap[gb]? = some (.cells #[.int .i64 0, .slice none 0 0, .slice none 0 0, .slice none 0 0, .int .i64 0, .int .i64 0, .slice none 0 0] 35 (0, 0))) := by rw [hv, hgb]; exact heap_alloc_new v0 _
      have hb2 : Below v0.heap.size v0 v10 := by rw [hv]; exact below_new v0 _
      have GB := Lib.hid (show w2.heap.size ≤ gb ∧ v0.heap.size ≤ gb ∧ gb < v10.heap.size by have := BL0.out.size; rw [hv, hgb]; simp; omega)
      clear hv hgb
      have BL10 := Lib.hid (BL0.out.trans (hb2.mono BL0.out.size))
      clear hb2
      refine hK0.out _ _ (KS.out _ BL10.out) (fun hHeld => ?_)
      clear hK0 K0
      try simp only [Act.put, List.setIfInBounds_toArray, List.set_cons_zero, List.set_cons_succ]
      refine wpAnyH_ready (rs := [1]) (by kernel_rfl) (by simp) ?_
      refine AllReadyH.cons (o := _) rfl (fun K0 hK0 => ?_) (AllReadyH.nil)
      · go_simp
        refine (TK.out _ BL10.out).mono ?_
        rintro e9 v11 ⟨u1, u2, u3, rfl, hku, hb1, hb2⟩
        go_wp2_with fail
        have KR11 := Lib.hid hku
        obtain ⟨hk, hhk⟩ : ∃ hk, hk = v11.heap.size := ⟨_, rfl⟩
        rw [← hhk] at KR11
        have HK11 := Lib.hid (show hk ≤ v11.heap.size by omega)
        clear hku hb1 hhk
        have BL11 := Lib.hid (BL10.out.trans (hb2.mono BL10.out.size))
        have XB11 := Lib.hid ((hb2.block gb (Array.getElem?_eq_some_iff.1 XB10.out).1).trans XB10.out)
        clear hb2
        refine hK0.out _ _ (KS.out _ BL11.out) (fun hHeld => ?_)
        clear hK0 K0
        try simp only [Act.put, List.setIfInBounds_toArray, List.set_cons_zero, List.set_cons_succ]
        refine wpAnyH_ready (rs := [3]) (by kernel_rfl) (by simp) ?_
        refine AllReadyH.cons (o := _) rfl (fun K0 hK0 => ?_) (AllReadyH.nil)
        · go_simp
          refine (toCall_any kk e s to _).mono ?_
          rintro e9 v12 ⟨rfl, hb2⟩
          go_wp2_with fail
          have BL12 := Lib.hid (BL11.out.trans (hb2.mono BL11.out.size))
          have XB12 := Lib.hid ((hb2.block gb (Array.getElem?_eq_some_iff.1 XB11.out).1).trans XB11.out)
          have KR12 := Lib.hid (KR11.out.below hb2 HK11.out)
          have HK12 := Lib.hid (Nat.le_trans HK11.out hb2.size)
          clear hb2
          refine hK0.out _ _ (KS.out _ BL12.out) (fun hHeld => ?_)
          clear hK0 K0
          try simp only [Act.put, List.setIfInBounds_toArray, List.set_cons_zero, List.set_cons_succ]
          refine wpAnyH_ready (rs := [4]) (by kernel_rfl) (by simp) ?_
          refine AllReadyH.cons (o := _) rfl (fun K0 hK0 => ?_) (AllReadyH.nil)
          · go_simp
            have GS := Lib.hid (show gb < v12.heap.size from (Array.getElem?_eq_some_iff.1 XB12.out).1)
            refine (SPD.out v12 u1 u2 u3 _ KR12.out).mono ?_
            rintro e9 v13 ⟨p, rfl, ho, hb2⟩
            unfold Rp.val
            go_wp2_with fail
            have OW13 := Lib.hid ho
            have ZS := Lib.hid (show w2.heap.size ≤ v12.heap.size ∧ v12.heap.size ≤ v13.heap.size from ⟨BL12.out.size, hb2.size⟩)
            have ZE13 := Lib.hid (show v13.heap.size ≤ v13.heap.size from Nat.le_refl _)
            clear ho
            have BL13 := Lib.hid (BL12.out.trans (hb2.mono BL12.out.size))
            have XB13 := Lib.hid ((hb2.block gb (Array.getElem?_eq_some_iff.1 XB12.out).1).trans XB12.out)
            have KR13 := Lib.hid (KR12.out.below hb2 HK12.out)
            have HK13 := Lib.hid (Nat.le_trans HK12.out hb2.size)
            clear hb2
            refine hK0.out _ _ (KS.out _ BL13.out) (fun hHeld => ?_)
            clear hK0 K0
            try simp only [Act.put, List.setIfInBounds_toArray, List.set_cons_zero, List.set_cons_succ]
            refine wpAnyH_ready (rs := [6]) (by kernel_rfl) (by simp) ?_
            refine AllReadyH.cons (o := _) rfl (fun K0 hK0 => ?_) AllReadyH.nil
            have FA := Lib.hid (ansAt_of (w := w2) (q := dq) XB13.out OW13.out (.inl GS.out) (by have := ZS.out; omega) (by have := ZE13.out; omega) (by have := GB.out; omega) BL13.out)
            have KF := Lib.hid (KS.out _ (by obtain ⟨_, _, _, _, _, h⟩ := FA.out; exact h))
            clear hHeld
            rw [if_pos (by rfl)]
            refine wp_store_row 35 _ _ rfl gb _ rfl rfl 35 _ XB13.out (by kernel_rfl) rfl (by simp [Value.oneCell']) ?_
            refine hK0.out _ _ KF.out (fun hHeld => ?_)
            clear hK0 K0
            refine wpAnyH_done (by kernel_rfl) ?_ _
            go_wp2_with fail
            go_meet
            with_reducible exact ⟨_, rfl, FA.out⟩
  case rest =>
    obtain ⟨b6, rfl, hA6⟩ := hcut
    have R4 := Lib.hid hA6.fst
    obtain ⟨⟨A1a, n1a, c1a, A2a, n2a, c2a, A3a, n3a, c3a, A4a, n4a, c4a, g1a, g2a, g3a, g4a⟩, xa, oa, da, za, _⟩ := hA6
    dsimp only at xa da
    obtain ⟨h5, hh5⟩ : ∃ h5, h5 = wc.heap.size := ⟨_, rfl⟩
    have XA := Lib.hid xa; have OA := Lib.hid oa
    have ZA := Lib.hid (show (w2.heap.size ≤ b6 ∧ b6 < h5) ∧ (w2.heap.size ≤ g1a ∧ g1a < h5) ∧ (w2.heap.size ≤ g2a ∧ g2a < h5) ∧ (w2.heap.size ≤ g3a ∧ g3a < h5) ∧ (w2.heap.size ≤ g4a ∧ g4a < h5) by rw [hh5]; exact ⟨za, oa.b1, oa.b2, oa.b3, oa.b4⟩)
    have HH5 := Lib.hid hh5
    obtain ⟨⟨q0, q1, q2, q3, q4⟩, p0, p1, p2, p3⟩ := KS.out _ R4.out
    clear SPD xa oa da za hh5
    go_wp2_with fail
    refine (TKM.out _ R4.out).mono ?_
    rintro e9 w5 ⟨u1, u2, u3, rfl, hz, ⟨m1, m2, m3⟩, hb⟩
    obtain ⟨w6, hw6⟩ : ∃ w6, w6 = w5.alloc (.cells #[.slice (some ⟨u1, 0, none⟩) n1 n1, .slice (some ⟨u2, 0, none⟩) n2 n2, .slice (some ⟨u3, 0, none⟩) n3 n3, .int .i64 K.tick, .int .i64 K.run] 32) := ⟨_, rfl⟩
    obtain ⟨b7, hb7⟩ : ∃ b7, b7 = w5.heap.size := ⟨_, rfl⟩
    have X6 := Lib.hid (show w6.heap[b7]? = some (.cells #[.slice (some ⟨u1, 0, none⟩) n1 n1, .slice (some ⟨u2, 0, none⟩) n2 n2, .slice (some ⟨u3, 0, none⟩) n3 n3, .int .i64 K.tick, .int .i64 K.run] 32 (0, 0)) by rw [hw6, hb7]; exact heap_alloc_new w5 _)
    have hb56 : Below w5.heap.size w5 w6 := by rw [hw6]; exact below_new w5 _
    have hb26 : Below wc.heap.size wc w6 := hb.trans (hb56.mono hb.size)
    have S6 := Lib.hid (show w6.heap.size = b7 + 1 ∧ (h5 < u1 ∧ u1 < u2 ∧ u2 < u3 ∧ u3 < b7) by rw [hw6, hb7]; exact ⟨by simp, by have := HH5.out; omega⟩)
    have XA6 := Lib.hid ((hb26.block b6 (by have := HH5.out; have := ZA.out; omega)).trans XA.out)
    have OA6 : Hid (ROwn w6 w2.heap.size h5 ⟨A1a, n1a, c1a, A2a, n2a, c2a, A3a, n3a, c3a, A4a, n4a, c4a, g1a, g2a, g3a, g4a⟩ dK dn) := by rw [HH5.out]; exact OA.out.kep (Kept.of_below hb26 []) (by simp) (by simp) (by simp) (by simp)
    have R6 := Lib.hid (R4.out.trans (hb26.mono R4.out.size))
    have M1 := Lib.hid (m1.below hb56 (by have := S6.out; omega)); have M2 := Lib.hid (m2.below hb56 (by have := S6.out; omega)); have M3 := Lib.hid (m3.below hb56 (by have := S6.out; omega))
    have HW6 := Lib.hid hw6; have HB7 := Lib.hid hb7
    clear hb hb56 hb26 hw6 hb7 hz m1 m2 m3 XA OA R4 HH5
    go_upto_region 7 with (fail)
    rw [← HW6.out, ← HB7.out]
    clear HW6 HB7
    have KR7 : Hid (∀ W, Below w6.heap.size w6 W → KRead W 0 b7 (some ⟨u1, 0, none⟩) n1 (some ⟨u2, 0, none⟩) n2 (some ⟨u3, 0, none⟩) n3 K) := fun W hW => by
      have s6 := S6.out
      exact ⟨HLK.out, (M1.out.below hW (by omega)).sl.wide (by omega) (by omega), (M2.out.below hW (by omega)).sl.wide (by omega) (by omega), (M3.out.below hW (by omega)).sl.wide (by omega) (by omega)⟩
    have KS6 := KS
    have KS : Hid (∀ W, Below w6.heap.size w6 W → ((W.cell? ⟨b7, 0, none⟩ = some (.slice (some ⟨u1, 0, none⟩) n1 n1) ∧ W.cell? ⟨b7, 1, none⟩ = some (.slice (some ⟨u2, 0, none⟩) n2 n2) ∧ W.cell? ⟨b7, 2, none⟩ = some (.slice (some ⟨u3, 0, none⟩) n3 n3) ∧ W.cell? ⟨b7, 3, none⟩ = some (.int .i64 K.tick) ∧ W.cell? ⟨b7, 4, none⟩ = some (.int .i64 K.run)) ∧ (W.cell? ⟨w.heap.size + 1, 0, none⟩ = some (.int .i64 kk) ∧ W.cell? ⟨w.heap.size + 1, 1, none⟩ = some (.int .i64 e) ∧ W.cell? ⟨w.heap.size + 1, 2, none⟩ = some (.int .i64 s) ∧ W.cell? ⟨w.heap.size + 1, 3, none⟩ = some (.int .i64 to)))) := fun W hW => by
      have j := (hW.block b7 (by have := S6.out; omega)).trans X6.out
      exact ⟨⟨cell_of_row W _ 0 _ _ _ j, cell_of_row W _ 1 _ _ _ j, cell_of_row W _ 2 _ _ _ j, cell_of_row W _ 3 _ _ _ j, cell_of_row W _ 4 _ _ _ j⟩, (KS6.out W (R6.out.trans (hW.mono R6.out.size))).2⟩
    clear q0 q1 q2 q3 q4 p0 p1 p2 p3
    go_cut [8] from 13 (fun x wx => ∃ gb, x = .pointer (some ⟨gb, 0, none⟩) ∧ AnsAt w6 gb dq dK dn wx)
    case first => as_aux_lemma =>
      refine wp_region_held_drew (S := fun W => ((W.cell? ⟨b7, 0, none⟩ = some (.slice (some ⟨u1, 0, none⟩) n1 n1) ∧ W.cell? ⟨b7, 1, none⟩ = some (.slice (some ⟨u2, 0, none⟩) n2 n2) ∧ W.cell? ⟨b7, 2, none⟩ = some (.slice (some ⟨u3, 0, none⟩) n3 n3) ∧ W.cell? ⟨b7, 3, none⟩ = some (.int .i64 K.tick) ∧ W.cell? ⟨b7, 4, none⟩ = some (.int .i64 K.run)) ∧ (W.cell? ⟨w.heap.size + 1, 0, none⟩ = some (.int .i64 kk) ∧ W.cell? ⟨w.heap.size + 1, 1, none⟩ = some (.int .i64 e) ∧ W.cell? ⟨w.heap.size + 1, 2, none⟩ = some (.int .i64 s) ∧ W.cell? ⟨w.heap.size + 1, 3, none⟩ = some (.int .i64 to)))) (by kernel_rfl) (KS.out _ (Below.drew (Below.refl _ _))) (fun hHeld => ?_)
      obtain ⟨v0, hv0⟩ : ∃ v0, v0 = w6.drew := ⟨_, rfl⟩
      have BL0 : Hid (Below w6.heap.size w6 v0) := by rw [hv0]; exact Below.drew (Below.refl _ _)
      rw [← hv0] at hHeld ⊢
      clear hv0
      refine wpAnyH_take (i := 0) (oi := _) (v := ?_) rfl (by kernel_rfl) (by kernel_rfl) (by kernel_rfl) (fun _ _ _ h => h) (Or.inl ⟨by rfl, ?_⟩) hHeld ?_
      rotate_left
      · (intro w hSw; (try dsimp only at hSw); go_simp; try with_reducible rfl)
      try simp only [Act.put, List.setIfInBounds_toArray, List.set_cons_zero, List.set_cons_succ]
      refine wpAnyH_take (i := 1) (oi := _) (v := ?_) rfl (by kernel_rfl) (by kernel_rfl) (by kernel_rfl) (fun _ _ _ h => h) (Or.inl ⟨by rfl, ?_⟩) hHeld ?_
      rotate_left
      · (intro w hSw; (try dsimp only at hSw); go_simp; try with_reducible rfl)
      try simp only [Act.put, List.setIfInBounds_toArray, List.set_cons_zero, List.set_cons_succ]
      refine wpAnyH_ready (rs := [2, 4]) (by kernel_rfl) (by simp) ?_
      refine AllReadyH.cons (o := _) rfl (fun K0 hK0 => ?_) (AllReadyH.cons (o := _) rfl (fun K0 hK0 => ?_) (AllReadyH.nil))
      · go_simp
        refine (toCall_any kk e s to _).mono ?_
        rintro e9 v14 ⟨rfl, hb2⟩
        go_wp2_with fail
        have BL14 := Lib.hid (BL0.out.trans (hb2.mono BL0.out.size))
        clear hb2
        refine hK0.out _ _ (KS.out _ BL14.out) (fun hHeld => ?_)
        clear hK0 K0
        try simp only [Act.put, List.setIfInBounds_toArray, List.set_cons_zero, List.set_cons_succ]
        refine wpAnyH_ready (rs := [3, 4]) (by kernel_rfl) (by simp) ?_
        refine AllReadyH.cons (o := _) rfl (fun K0 hK0 => ?_) (AllReadyH.cons (o := _) rfl (fun K0 hK0 => ?_) (AllReadyH.nil))
        · go_simp
          refine (IPD.out v14 u1 u2 u3 _ (KR7.out _ BL14.out)).mono ?_
          rintro e9 v15 ⟨p, rfl, ho, hb2⟩
          unfold Rp.val
          go_wp2_with fail
          have OW15 := Lib.hid ho
          have ZS := Lib.hid (show w6.heap.size ≤ v14.heap.size ∧ v14.heap.size ≤ v15.heap.size from ⟨BL14.out.size, hb2.size⟩)
          have ZE15 := Lib.hid (show v15.heap.size ≤ v15.heap.size from Nat.le_refl _)
          clear ho
          have BL15 := Lib.hid (BL14.out.trans (hb2.mono BL14.out.size))
          clear hb2
          refine hK0.out _ _ (KS.out _ BL15.out) (fun hHeld => ?_)
          clear hK0 K0
          try simp only [Act.put, List.setIfInBounds_toArray, List.set_cons_zero, List.set_cons_succ]
          refine wpAnyH_ready (rs := [4]) (by kernel_rfl) (by simp) ?_
          refine AllReadyH.cons (o := _) rfl (fun K0 hK0 => ?_) (AllReadyH.nil)
          · go_simp
            obtain ⟨v16, hv⟩ : ∃ v16, v16 = v15.alloc (.cells #[.int .i64 0, .slice none 0 0, .slice none 0 0, .slice none 0 0, .int .i64 0, .int .i64 0, .slice none 0 0] 35) := ⟨_, rfl⟩
            obtain ⟨gb, hgb⟩ : ∃ gb, gb = v15.heap.size := ⟨_, rfl⟩
            rw [← hv, ← hgb]
            have XB16 : Hid (v16.heap[gb]? = some (.cells #[.int .i64 0, .slice none 0 0, .slice none 0 0, .slice none 0 0, .int .i64 0, .int .i64 0, .slice none 0 0] 35 (0, 0))) := by rw [hv, hgb]; exact heap_alloc_new v15 _
            have hb2 : Below v15.heap.size v15 v16 := by rw [hv]; exact below_new v15 _
            have GB := Lib.hid (show w6.heap.size ≤ gb ∧ v15.heap.size ≤ gb ∧ gb < v16.heap.size by have := BL15.out.size; rw [hv, hgb]; simp; omega)
            clear hv hgb
            have GS := Lib.hid (show v15.heap.size ≤ gb by have := ZE15.out; have := GB.out; omega)
            have BL16 := Lib.hid (BL15.out.trans (hb2.mono BL15.out.size))
            have OW16 := Lib.hid (OW15.out.kep (Kept.of_below hb2 []) (by simp) (by simp) (by simp) (by simp))
            have ZE16 := Lib.hid (Nat.le_trans ZE15.out hb2.size)
            clear hb2
            refine hK0.out _ _ (KS.out _ BL16.out) (fun hHeld => ?_)
            clear hK0 K0
            try simp only [Act.put, List.setIfInBounds_toArray, List.set_cons_zero, List.set_cons_succ]
            refine wpAnyH_ready (rs := [5]) (by kernel_rfl) (by simp) ?_
            refine AllReadyH.cons (o := _) rfl (fun K0 hK0 => ?_) AllReadyH.nil
            have FA := Lib.hid (ansAt_of (w := w6) (q := dq) XB16.out OW16.out (.inr GS.out) (by have := ZS.out; omega) (by have := ZE16.out; omega) (by have := GB.out; omega) BL16.out)
            have KF := Lib.hid (KS.out _ (by obtain ⟨_, _, _, _, _, h⟩ := FA.out; exact h))
            clear hHeld
            rw [if_pos (by rfl)]
            refine wp_store_row 35 _ _ rfl gb _ rfl rfl 35 _ XB16.out (by kernel_rfl) rfl (by simp [Value.oneCell']) ?_
            refine hK0.out _ _ KF.out (fun hHeld => ?_)
            clear hK0 K0
            refine wpAnyH_done (by kernel_rfl) ?_ _
            go_wp2_with fail
            go_meet
            with_reducible exact ⟨_, rfl, FA.out⟩
        · go_simp
          obtain ⟨v17, hv⟩ : ∃ v17, v17 = v14.alloc (.cells #[.int .i64 0, .slice none 0 0, .slice none 0 0, .slice none 0 0, .int .i64 0, .int .i64 0, .slice none 0 0] 35) := ⟨_, rfl⟩
          obtain ⟨gb, hgb⟩ : ∃ gb, gb = v14.heap.size := ⟨_, rfl⟩
          rw [← hv, ← hgb]
          have XB17 : Hid (v17.heap[gb]? = some (.cells #[.int .i64 0, .slice none 0 0, .slice none 0 0, .slice none 0 0, .int .i64 0, .int .i64 0, .slice none 0 0] 35 (0, 0))) := by rw [hv, hgb]; exact heap_alloc_new v14 _
          have hb2 : Below v14.heap.size v14 v17 := by rw [hv]; exact below_new v14 _
          have GB := Lib.hid (show w6.heap.size ≤ gb ∧ v14.heap.size ≤ gb ∧ gb < v17.heap.size by have := BL14.out.size; rw [hv, hgb]; simp; omega)
          clear hv hgb
          have BL17 := Lib.hid (BL14.out.trans (hb2.mono BL14.out.size))
          clear hb2
          refine hK0.out _ _ (KS.out _ BL17.out) (fun hHeld => ?_)
          clear hK0 K0
          try simp only [Act.put, List.setIfInBounds_toArray, List.set_cons_zero, List.set_cons_succ]
          refine wpAnyH_ready (rs := [3]) (by kernel_rfl) (by simp) ?_
          refine AllReadyH.cons (o := _) rfl (fun K0 hK0 => ?_) (AllReadyH.nil)
          · go_simp
            have GS := Lib.hid (show gb < v17.heap.size from (Array.getElem?_eq_some_iff.1 XB17.out).1)
            refine (IPD.out v17 u1 u2 u3 _ (KR7.out _ BL17.out)).mono ?_
            rintro e9 v18 ⟨p, rfl, ho, hb2⟩
            unfold Rp.val
            go_wp2_with fail
            have OW18 := Lib.hid ho
            have ZS := Lib.hid (show w6.heap.size ≤ v17.heap.size ∧ v17.heap.size ≤ v18.heap.size from ⟨BL17.out.size, hb2.size⟩)
            have ZE18 := Lib.hid (show v18.heap.size ≤ v18.heap.size from Nat.le_refl _)
            clear ho
            have BL18 := Lib.hid (BL17.out.trans (hb2.mono BL17.out.size))
            have XB18 := Lib.hid ((hb2.block gb (Array.getElem?_eq_some_iff.1 XB17.out).1).trans XB17.out)
            clear hb2
            refine hK0.out _ _ (KS.out _ BL18.out) (fun hHeld => ?_)
            clear hK0 K0
            try simp only [Act.put, List.setIfInBounds_toArray, List.set_cons_zero, List.set_cons_succ]
            refine wpAnyH_ready (rs := [5]) (by kernel_rfl) (by simp) ?_
            refine AllReadyH.cons (o := _) rfl (fun K0 hK0 => ?_) AllReadyH.nil
            have FA := Lib.hid (ansAt_of (w := w6) (q := dq) XB18.out OW18.out (.inl GS.out) (by have := ZS.out; omega) (by have := ZE18.out; omega) (by have := GB.out; omega) BL18.out)
            have KF := Lib.hid (KS.out _ (by obtain ⟨_, _, _, _, _, h⟩ := FA.out; exact h))
            clear hHeld
            rw [if_pos (by rfl)]
            refine wp_store_row 35 _ _ rfl gb _ rfl rfl 35 _ XB18.out (by kernel_rfl) rfl (by simp [Value.oneCell']) ?_
            refine hK0.out _ _ KF.out (fun hHeld => ?_)
            clear hK0 K0
            refine wpAnyH_done (by kernel_rfl) ?_ _
            go_wp2_with fail
            go_meet
            with_reducible exact ⟨_, rfl, FA.out⟩
      · go_simp
        obtain ⟨v19, hv⟩ : ∃ v19, v19 = v0.alloc (.cells #[.int .i64 0, .slice none 0 0, .slice none 0 0, .slice none 0 0, .int .i64 0, .int .i64 0, .slice none 0 0] 35) := ⟨_, rfl⟩
        obtain ⟨gb, hgb⟩ : ∃ gb, gb = v0.heap.size := ⟨_, rfl⟩
        rw [← hv, ← hgb]
        have XB19 : Hid (v19.heap[gb]? = some (.cells #[.int .i64 0, .slice none 0 0, .slice none 0 0, .slice none 0 0, .int .i64 0, .int .i64 0, .slice none 0 0] 35 (0, 0))) := by rw [hv, hgb]; exact heap_alloc_new v0 _
        have hb2 : Below v0.heap.size v0 v19 := by rw [hv]; exact below_new v0 _
        have GB := Lib.hid (show w6.heap.size ≤ gb ∧ v0.heap.size ≤ gb ∧ gb < v19.heap.size by have := BL0.out.size; rw [hv, hgb]; simp; omega)
        clear hv hgb
        have BL19 := Lib.hid (BL0.out.trans (hb2.mono BL0.out.size))
        clear hb2
        refine hK0.out _ _ (KS.out _ BL19.out) (fun hHeld => ?_)
        clear hK0 K0
        try simp only [Act.put, List.setIfInBounds_toArray, List.set_cons_zero, List.set_cons_succ]
        refine wpAnyH_ready (rs := [2]) (by kernel_rfl) (by simp) ?_
        refine AllReadyH.cons (o := _) rfl (fun K0 hK0 => ?_) (AllReadyH.nil)
        · go_simp
          refine (toCall_any kk e s to _).mono ?_
          rintro e9 v20 ⟨rfl, hb2⟩
          go_wp2_with fail
          have BL20 := Lib.hid (BL19.out.trans (hb2.mono BL19.out.size))
          have XB20 := Lib.hid ((hb2.block gb (Array.getElem?_eq_some_iff.1 XB19.out).1).trans XB19.out)
          clear hb2
          refine hK0.out _ _ (KS.out _ BL20.out) (fun hHeld => ?_)
          clear hK0 K0
          try simp only [Act.put, List.setIfInBounds_toArray, List.set_cons_zero, List.set_cons_succ]
          refine wpAnyH_ready (rs := [3]) (by kernel_rfl) (by simp) ?_
          refine AllReadyH.cons (o := _) rfl (fun K0 hK0 => ?_) (AllReadyH.nil)
          · go_simp
            have GS := Lib.hid (show gb < v20.heap.size from (Array.getElem?_eq_some_iff.1 XB20.out).1)
            refine (IPD.out v20 u1 u2 u3 _ (KR7.out _ BL20.out)).mono ?_
            rintro e9 v21 ⟨p, rfl, ho, hb2⟩
            unfold Rp.val
            go_wp2_with fail
            have OW21 := Lib.hid ho
            have ZS := Lib.hid (show w6.heap.size ≤ v20.heap.size ∧ v20.heap.size ≤ v21.heap.size from ⟨BL20.out.size, hb2.size⟩)
            have ZE21 := Lib.hid (show v21.heap.size ≤ v21.heap.size from Nat.le_refl _)
            clear ho
            have BL21 := Lib.hid (BL20.out.trans (hb2.mono BL20.out.size))
            have XB21 := Lib.hid ((hb2.block gb (Array.getElem?_eq_some_iff.1 XB20.out).1).trans XB20.out)
            clear hb2
            refine hK0.out _ _ (KS.out _ BL21.out) (fun hHeld => ?_)
            clear hK0 K0
            try simp only [Act.put, List.setIfInBounds_toArray, List.set_cons_zero, List.set_cons_succ]
            refine wpAnyH_ready (rs := [5]) (by kernel_rfl) (by simp) ?_
            refine AllReadyH.cons (o := _) rfl (fun K0 hK0 => ?_) AllReadyH.nil
            have FA := Lib.hid (ansAt_of (w := w6) (q := dq) XB21.out OW21.out (.inl GS.out) (by have := ZS.out; omega) (by have := ZE21.out; omega) (by have := GB.out; omega) BL21.out)
            have KF := Lib.hid (KS.out _ (by obtain ⟨_, _, _, _, _, h⟩ := FA.out; exact h))
            clear hHeld
            rw [if_pos (by rfl)]
            refine wp_store_row 35 _ _ rfl gb _ rfl rfl 35 _ XB21.out (by kernel_rfl) rfl (by simp [Value.oneCell']) ?_
            refine hK0.out _ _ KF.out (fun hHeld => ?_)
            clear hK0 K0
            refine wpAnyH_done (by kernel_rfl) ?_ _
            go_wp2_with fail
            go_meet
            with_reducible exact ⟨_, rfl, FA.out⟩
    case rest =>
      obtain ⟨b8, rfl, hA8⟩ := hcut
      have R8 := Lib.hid hA8.fst
      obtain ⟨⟨A1b, n1b, c1b, A2b, n2b, c2b, A3b, n3b, c3b, A4b, n4b, c4b, g1b, g2b, g3b, g4b⟩, xb, ob, db, zb, _⟩ := hA8
      dsimp only at xb db
      have XB := Lib.hid xb; have OB := Lib.hid ob; have DB := Lib.hid db
      have ZB := Lib.hid (show (w6.heap.size ≤ b8 ∧ b8 < wc.heap.size) ∧ (w6.heap.size ≤ g1b ∧ g1b < wc.heap.size) ∧ (w6.heap.size ≤ g2b ∧ g2b < wc.heap.size) ∧ (w6.heap.size ≤ g3b ∧ g3b < wc.heap.size) ∧ (w6.heap.size ≤ g4b ∧ g4b < wc.heap.size) from ⟨zb, ob.b1, ob.b2, ob.b3, ob.b4⟩)
      clear xb ob db zb
      have s6 := S6.out; have za := ZA.out; have zb := ZB.out
      have XA8 := Lib.hid ((R8.out.block b6 (by omega)).trans XA6.out)
      have X8 := Lib.hid ((R8.out.block b7 (by omega)).trans X6.out)
      have OA8 := Lib.hid (OA6.out.kep (Kept.of_below R8.out []) (by simp) (by simp) (by simp) (by simp))
      have N1 := Lib.hid (M1.out.below R8.out (by omega)); have N2 := Lib.hid (M2.out.below R8.out (by omega)); have N3 := Lib.hid (M3.out.below R8.out (by omega))
      have RW := Lib.hid (R6.out.trans (R8.out.mono R6.out.size))
      have UP : Hid (∀ W, Kept [u1, u2, u3, g1b, g2b, g3b, g4b] wc W → Below w2.heap.size w2 W) := fun W hW => RW.out.trans (hW.below RW.out.size (fun b hb => by have := S6.out; have := ZA.out; have := ZB.out; simp at hb; omega))
      have QA : Hid (∀ W, Kept [u1, u2, u3, g1b, g2b, g3b, g4b] wc W → (W.cell? ⟨b8, 0, none⟩ = some (.int .i64 dq) ∧ W.cell? ⟨b8, 1, none⟩ = some (.slice A1b n1b c1b) ∧ W.cell? ⟨b8, 2, none⟩ = some (.slice A2b n2b c2b) ∧ W.cell? ⟨b8, 3, none⟩ = some (.slice A3b n3b c3b) ∧ W.cell? ⟨b8, 4, none⟩ = some (.int .i64 dK.tick) ∧ W.cell? ⟨b8, 5, none⟩ = some (.int .i64 dK.run) ∧ W.cell? ⟨b8, 6, none⟩ = some (.slice A4b n4b c4b)) ∧ (W.cell? ⟨b6, 0, none⟩ = some (.int .i64 dq) ∧ W.cell? ⟨b6, 1, none⟩ = some (.slice A1a n1a c1a) ∧ W.cell? ⟨b6, 2, none⟩ = some (.slice A2a n2a c2a) ∧ W.cell? ⟨b6, 3, none⟩ = some (.slice A3a n3a c3a) ∧ W.cell? ⟨b6, 4, none⟩ = some (.int .i64 dK.tick) ∧ W.cell? ⟨b6, 5, none⟩ = some (.int .i64 dK.run) ∧ W.cell? ⟨b6, 6, none⟩ = some (.slice A4a n4a c4a)) ∧ (W.cell? ⟨b7, 0, none⟩ = some (.slice (some ⟨u1, 0, none⟩) n1 n1) ∧ W.cell? ⟨b7, 1, none⟩ = some (.slice (some ⟨u2, 0, none⟩) n2 n2) ∧ W.cell? ⟨b7, 2, none⟩ = some (.slice (some ⟨u3, 0, none⟩) n3 n3) ∧ W.cell? ⟨b7, 3, none⟩ = some (.int .i64 K.tick) ∧ W.cell? ⟨b7, 4, none⟩ = some (.int .i64 K.run)) ∧ ((W.cell? ⟨w.heap.size, 0, none⟩ = some (.slice A1 n1 c1) ∧ W.cell? ⟨w.heap.size, 1, none⟩ = some (.slice A2 n2 c2) ∧ W.cell? ⟨w.heap.size, 2, none⟩ = some (.slice A3 n3 c3) ∧ W.cell? ⟨w.heap.size, 3, none⟩ = some (.int .i64 K.tick) ∧ W.cell? ⟨w.heap.size, 4, none⟩ = some (.int .i64 K.run)) ∧ (W.cell? ⟨w.heap.size + 1, 0, none⟩ = some (.int .i64 kk) ∧ W.cell? ⟨w.heap.size + 1, 1, none⟩ = some (.int .i64 e) ∧ W.cell? ⟨w.heap.size + 1, 2, none⟩ = some (.int .i64 s) ∧ W.cell? ⟨w.heap.size + 1, 3, none⟩ = some (.int .i64 to))) ∧ ROwn W w2.heap.size h5 ⟨A1a, n1a, c1a, A2a, n2a, c2a, A3a, n3a, c3a, A4a, n4a, c4a, g1a, g2a, g3a, g4a⟩ dK dn) := fun W hW => by
        have s6 := S6.out; have za := ZA.out; have zb := ZB.out; have db := DB.out
        have j8 := (hW.2 b8 (by omega) (by simp; omega)).trans XB.out
        have j6 := (hW.2 b6 (by omega) (by simp; omega)).trans XA8.out
        have j7 := (hW.2 b7 (by omega) (by simp; omega)).trans X8.out
        refine ⟨⟨cell_of_row W _ 0 _ _ _ j8, cell_of_row W _ 1 _ _ _ j8, cell_of_row W _ 2 _ _ _ j8, cell_of_row W _ 3 _ _ _ j8, cell_of_row W _ 4 _ _ _ j8, cell_of_row W _ 5 _ _ _ j8, cell_of_row W _ 6 _ _ _ j8⟩, ⟨cell_of_row W _ 0 _ _ _ j6, cell_of_row W _ 1 _ _ _ j6, cell_of_row W _ 2 _ _ _ j6, cell_of_row W _ 3 _ _ _ j6, cell_of_row W _ 4 _ _ _ j6, cell_of_row W _ 5 _ _ _ j6, cell_of_row W _ 6 _ _ _ j6⟩, ⟨cell_of_row W _ 0 _ _ _ j7, cell_of_row W _ 1 _ _ _ j7, cell_of_row W _ 2 _ _ _ j7, cell_of_row W _ 3 _ _ _ j7, cell_of_row W _ 4 _ _ _ j7⟩, KS6.out W (UP.out W hW), ?_⟩
        refine OA8.out.kep hW ?_ ?_ ?_ ?_ <;> (simp; omega)
      have ZZ := Lib.hid (show wc.heap.size ≤ wc.heap.size from Nat.le_refl _)
      obtain ⟨⟨x0, x1, x2, x3, x4, x5, x6⟩, ⟨y0, y1, y2, y3, y4, y5, y6⟩, ⟨z0, z1, z2, z3, z4⟩, ⟨⟨q0, q1, q2, q3, q4⟩, p0, p1, p2, p3⟩, oA⟩ := QA.out wc (Kept.refl _ _)
      clear s6 za zb XA6 X6 OA6 M1 M2 M3 XA8 X8 OA8 KS R6
      -- both say the same
      go_wp2_with fail
      refine (eqR_own (p := ⟨A1b, n1b, c1b, A2b, n2b, c2b, A3b, n3b, c3b, A4b, n4b, c4b, g1b, g2b, g3b, g4b⟩) (p' := ⟨A1a, n1a, c1a, A2a, n2a, c2a, A3a, n3a, c3a, A4a, n4a, c4a, g1a, g2a, g3a, g4a⟩) SD.out OB.out oA).mono ?_
      rintro e9 w9 ⟨rfl, hb⟩
      have K9 := Lib.hid (Kept.of_below hb [u1, u2, u3, g1b, g2b, g3b, g4b])
      have N1' := Lib.hid (N1.out.below hb (by have := S6.out; have := ZB.out; omega)); have N2' := Lib.hid (N2.out.below hb (by have := S6.out; have := ZB.out; omega)); have N3' := Lib.hid (N3.out.below hb (by have := S6.out; have := ZB.out; omega))
      have OB9 := Lib.hid (OB.out.kep (Kept.of_below hb []) (by simp) (by simp) (by simp) (by simp))
      have S9 := Lib.hid hb.size
      clear x0 x1 x2 x3 x4 x5 x6 y0 y1 y2 y3 y4 y5 y6 z0 z1 z2 z3 z4 q0 q1 q2 q3 q4 p0 p1 p2 p3
      clear hb oA OB N1 N2 N3
      obtain ⟨⟨x0, x1, x2, x3, x4, x5, x6⟩, ⟨y0, y1, y2, y3, y4, y5, y6⟩, ⟨z0, z1, z2, z3, z4⟩, ⟨⟨q0, q1, q2, q3, q4⟩, p0, p1, p2, p3⟩, oA⟩ := QA.out w9 K9.out
      have K9b := Lib.hid (show Below w9.heap.size w9 w9 from Below.refl _ _)
      -- the kernel that was handed is as it was
      have KT : Hid (∀ W, Below w9.heap.size w9 W → (W.cell? ⟨b7, 0, none⟩ = some (.slice (some ⟨u1, 0, none⟩) n1 n1) ∧ W.cell? ⟨b7, 1, none⟩ = some (.slice (some ⟨u2, 0, none⟩) n2 n2) ∧ W.cell? ⟨b7, 2, none⟩ = some (.slice (some ⟨u3, 0, none⟩) n3 n3) ∧ W.cell? ⟨b7, 3, none⟩ = some (.int .i64 K.tick) ∧ W.cell? ⟨b7, 4, none⟩ = some (.int .i64 K.run)) ∧ ((W.cell? ⟨w.heap.size, 0, none⟩ = some (.slice A1 n1 c1) ∧ W.cell? ⟨w.heap.size, 1, none⟩ = some (.slice A2 n2 c2) ∧ W.cell? ⟨w.heap.size, 2, none⟩ = some (.slice A3 n3 c3) ∧ W.cell? ⟨w.heap.size, 3, none⟩ = some (.int .i64 K.tick) ∧ W.cell? ⟨w.heap.size, 4, none⟩ = some (.int .i64 K.run)) ∧ (W.cell? ⟨w.heap.size + 1, 0, none⟩ = some (.int .i64 kk) ∧ W.cell? ⟨w.heap.size + 1, 1, none⟩ = some (.int .i64 e) ∧ W.cell? ⟨w.heap.size + 1, 2, none⟩ = some (.int .i64 s) ∧ W.cell? ⟨w.heap.size + 1, 3, none⟩ = some (.int .i64 to))) ∧ Below w9.heap.size w9 W) := fun W hW => by
        obtain ⟨_, _, h3, h4, _⟩ := QA.out W (K9.out.then_below hW)
        exact ⟨h3, h4, hW⟩
      have PT : Hid (∀ W, ((W.cell? ⟨b7, 0, none⟩ = some (.slice (some ⟨u1, 0, none⟩) n1 n1) ∧ W.cell? ⟨b7, 1, none⟩ = some (.slice (some ⟨u2, 0, none⟩) n2 n2) ∧ W.cell? ⟨b7, 2, none⟩ = some (.slice (some ⟨u3, 0, none⟩) n3 n3) ∧ W.cell? ⟨b7, 3, none⟩ = some (.int .i64 K.tick) ∧ W.cell? ⟨b7, 4, none⟩ = some (.int .i64 K.run)) ∧ ((W.cell? ⟨w.heap.size, 0, none⟩ = some (.slice A1 n1 c1) ∧ W.cell? ⟨w.heap.size, 1, none⟩ = some (.slice A2 n2 c2) ∧ W.cell? ⟨w.heap.size, 2, none⟩ = some (.slice A3 n3 c3) ∧ W.cell? ⟨w.heap.size, 3, none⟩ = some (.int .i64 K.tick) ∧ W.cell? ⟨w.heap.size, 4, none⟩ = some (.int .i64 K.run)) ∧ (W.cell? ⟨w.heap.size + 1, 0, none⟩ = some (.int .i64 kk) ∧ W.cell? ⟨w.heap.size + 1, 1, none⟩ = some (.int .i64 e) ∧ W.cell? ⟨w.heap.size + 1, 2, none⟩ = some (.int .i64 s) ∧ W.cell? ⟨w.heap.size + 1, 3, none⟩ = some (.int .i64 to))) ∧ Below w9.heap.size w9 W) → Below w9.heap.size w9 W) := fun W hh => hh.2.2
      have AK : Hid (∀ W, Below w9.heap.size w9 W → Calls Try.prog 6 #[.agg #[.slice A1 n1 c1, .slice A2 n2 c2, .slice A3 n3 c3, .int .i64 K.tick, .int .i64 K.run]] W fun e w' => ∃ y1 y2 y3, e = .returned (.agg #[.slice (some ⟨y1, 0, none⟩) n1 n1, .slice (some ⟨y2, 0, none⟩) n2 n2, .slice (some ⟨y3, 0, none⟩) n3 n3, .int .i64 K.tick, .int .i64 K.run]) ∧ KRead w' 0 w'.heap.size (some ⟨y1, 0, none⟩) n1 (some ⟨y2, 0, none⟩) n2 (some ⟨y3, 0, none⟩) n3 K ∧ Below w9.heap.size w9 w') := fun W hB =>
        (TK.out W (UP.out W (K9.out.then_below hB))).mono fun e w' ⟨y1, y2, y3, he, hk, hb, hb2⟩ => ⟨y1, y2, y3, he, hk, hB.trans (hb2.mono hB.size)⟩
      have EK : Hid (∀ W y1 y2 y3, Below w9.heap.size w9 W → KRead W 0 W.heap.size (some ⟨y1, 0, none⟩) n1 (some ⟨y2, 0, none⟩) n2 (some ⟨y3, 0, none⟩) n3 K → Calls Try.prog 10 #[.agg #[.slice (some ⟨u1, 0, none⟩) n1 n1, .slice (some ⟨u2, 0, none⟩) n2 n2, .slice (some ⟨u3, 0, none⟩) n3 n3, .int .i64 K.tick, .int .i64 K.run], .agg #[.slice (some ⟨y1, 0, none⟩) n1 n1, .slice (some ⟨y2, 0, none⟩) n2 n2, .slice (some ⟨y3, 0, none⟩) n3 n3, .int .i64 K.tick, .int .i64 K.run]] W fun e w' => e = .returned (.bool true) ∧ Below w9.heap.size w9 w') := fun W y1 y2 y3 hB hk => by
        have s6 := S6.out; have s9 := S9.out; have zb := ZB.out
        exact (eqKernel_same 0 w9.heap.size 0 W.heap.size _ n1 n1 _ n2 n2 _ n3 n3 _ n1 _ n2 _ n3 K.tick K.run K W (by have := SM.out; omega) (by have := SM.out; omega) (by have := SM.out; omega) ⟨HLK.out, (N1'.out.below hB (by omega)).sl.wide (by omega) (by omega), (N2'.out.below hB (by omega)).sl.wide (by omega) (by omega), (N3'.out.below hB (by omega)).sl.wide (by omega) (by omega)⟩ hk).mono fun e w' ⟨h1, h2⟩ => ⟨h1, hB.trans (h2.mono hB.size)⟩
      clear x0 x1 x2 x3 x4 x5 x6 y0 y1 y2 y3 y4 y5 y6 z0 z1 z2 z3 z4 q0 q1 q2 q3 q4 p0 p1 p2 p3
      go_upto_region 10 with (fail)
      go_region_held3 (fun W => (W.cell? ⟨b7, 0, none⟩ = some (.slice (some ⟨u1, 0, none⟩) n1 n1) ∧ W.cell? ⟨b7, 1, none⟩ = some (.slice (some ⟨u2, 0, none⟩) n2 n2) ∧ W.cell? ⟨b7, 2, none⟩ = some (.slice (some ⟨u3, 0, none⟩) n3 n3) ∧ W.cell? ⟨b7, 3, none⟩ = some (.int .i64 K.tick) ∧ W.cell? ⟨b7, 4, none⟩ = some (.int .i64 K.run)) ∧ ((W.cell? ⟨w.heap.size, 0, none⟩ = some (.slice A1 n1 c1) ∧ W.cell? ⟨w.heap.size, 1, none⟩ = some (.slice A2 n2 c2) ∧ W.cell? ⟨w.heap.size, 2, none⟩ = some (.slice A3 n3 c3) ∧ W.cell? ⟨w.heap.size, 3, none⟩ = some (.int .i64 K.tick) ∧ W.cell? ⟨w.heap.size, 4, none⟩ = some (.int .i64 K.run)) ∧ (W.cell? ⟨w.heap.size + 1, 0, none⟩ = some (.int .i64 kk) ∧ W.cell? ⟨w.heap.size + 1, 1, none⟩ = some (.int .i64 e) ∧ W.cell? ⟨w.heap.size + 1, 2, none⟩ = some (.int .i64 s) ∧ W.cell? ⟨w.heap.size + 1, 3, none⟩ = some (.int .i64 to))) ∧ Below w9.heap.size w9 W) (first | with_reducible exact KT.out _ (by assumption) | exact KT.out _ (Below.drew (Below.refl _ _))) (first | (go_at_call 6; with_reducible refine (AK.out _ (PT.out _ (by assumption))).mono ?_; rintro e9 wa ⟨y1, y2, y3, rfl, hkr, hba⟩) | (go_at_call 10; with_reducible refine (EK.out _ _ _ _ (PT.out _ (by assumption)) (by assumption)).mono ?_; rintro e9 wb ⟨rfl, hbb⟩))
      have K10 := Lib.hid (K9.out.then_below hbb)
      have N1 := Lib.hid (N1'.out.below hbb (by have := S6.out; have := S9.out; have := ZB.out; omega)); have N2 := Lib.hid (N2'.out.below hbb (by have := S6.out; have := S9.out; have := ZB.out; omega)); have N3 := Lib.hid (N3'.out.below hbb (by have := S6.out; have := S9.out; have := ZB.out; omega))
      have OB10 := Lib.hid (OB9.out.kep (Kept.of_below hbb []) (by simp) (by simp) (by simp) (by simp))
      have S10 := Lib.hid (show wc.heap.size ≤ wb.heap.size by have := hbb.size; have := S9.out; omega)
      clear hba hbb hkr N1' N2' N3' OB9 K9b KT PT AK EK K9 S9 oA
      obtain ⟨⟨x0, x1, x2, x3, x4, x5, x6⟩, ⟨y0, y1, y2, y3, y4, y5, y6⟩, ⟨z0, z1, z2, z3, z4⟩, ⟨⟨q0, q1, q2, q3, q4⟩, p0, p1, p2, p3⟩, oA⟩ := QA.out wb K10.out
      -- its lists are marked
      go_wp2_with fail
      have s6 := S6.out; have s10 := S10.out; have zb := ZB.out
      refine (markKernel_any _ n1 n1 _ n2 n2 _ n3 n3 u1 u2 u3 _ _ _ K.tick K.run 1 wb (by have := SM.out; omega) (by have := SM.out; omega) (by have := SM.out; omega) (by omega) N1.out N2.out N3.out (by omega) (by omega) (by omega) (fun _ _ => by omega) (fun _ _ => by omega) (fun _ _ => by omega)).mono ?_
      rintro e9 w11 ⟨rfl, _, _, _, hk⟩
      have hk3 : Kept [u1, u2, u3] wb w11 := hk.mono (fun b hb _ => by simp only [List.mem_append, gsOf] at hb; rcases hb with (hb | hb) | hb <;> (split at hb <;> simp_all))
      have K11 := Lib.hid (K10.out.trans (hk3.mono (gs' := [u1, u2, u3, g1b, g2b, g3b, g4b]) (fun b hb _ => by simp at hb; rcases hb with rfl | rfl | rfl <;> simp)))
      have OB11 := Lib.hid (OB10.out.kep hk3 (by simp; omega) (by simp; omega) (by simp; omega) (by simp; omega))
      have S11 := Lib.hid (show wc.heap.size ≤ w11.heap.size by have := hk3.1.size; omega)
      obtain ⟨tk, htk⟩ : ∃ tk : Nat, tk = 1 + n1 + n2 + n3 * 4 := ⟨_, rfl⟩
      rw [← htk]
      clear htk hk hk3 s6 s10 zb N1 N2 N3 OB10 K10 S10 oA
      have t0 : ((tk : Int) < 0) = False := by simp
      clear x0 x1 x2 x3 x4 x5 x6 y0 y1 y2 y3 y4 y5 y6 z0 z1 z2 z3 z4 q0 q1 q2 q3 q4 p0 p1 p2 p3
      obtain ⟨⟨x0, x1, x2, x3, x4, x5, x6⟩, ⟨y0, y1, y2, y3, y4, y5, y6⟩, ⟨z0, z1, z2, z3, z4⟩, ⟨⟨q0, q1, q2, q3, q4⟩, p0, p1, p2, p3⟩, oA⟩ := QA.out w11 K11.out
      go_wp2_with fail
      refine (eqR_own (p := ⟨A1b, n1b, c1b, A2b, n2b, c2b, A3b, n3b, c3b, A4b, n4b, c4b, g1b, g2b, g3b, g4b⟩) (p' := ⟨A1a, n1a, c1a, A2a, n2a, c2a, A3a, n3a, c3a, A4a, n4a, c4a, g1a, g2a, g3a, g4a⟩) SD.out OB11.out oA).mono ?_
      rintro e9 w12 ⟨rfl, hb⟩
      have K12 := Lib.hid (K11.out.then_below hb)
      have OB12 := Lib.hid (OB11.out.kep (Kept.of_below hb []) (by simp) (by simp) (by simp) (by simp))
      have S12 := Lib.hid (Nat.le_trans S11.out hb.size)
      clear hb OB11 K11 S11 oA t0
      clear x0 x1 x2 x3 x4 x5 x6 y0 y1 y2 y3 y4 y5 y6 z0 z1 z2 z3 z4 q0 q1 q2 q3 q4 p0 p1 p2 p3
      obtain ⟨⟨x0, x1, x2, x3, x4, x5, x6⟩, ⟨y0, y1, y2, y3, y4, y5, y6⟩, ⟨z0, z1, z2, z3, z4⟩, ⟨⟨q0, q1, q2, q3, q4⟩, p0, p1, p2, p3⟩, oA⟩ := QA.out w12 K12.out
      -- the answer's lists are marked
      go_wp2_with fail
      refine (markR_own (p := ⟨A1b, n1b, c1b, A2b, n2b, c2b, A3b, n3b, c3b, A4b, n4b, c4b, g1b, g2b, g3b, g4b⟩) SD.out OB12.out S12.out).mono ?_
      rintro e9 w13 ⟨rfl, hm, hk⟩
      have K13 := Lib.hid (K12.out.trans (hk.mono (gs' := [u1, u2, u3, g1b, g2b, g3b, g4b]) (fun b hb _ => by simp at hb; rcases hb with rfl | rfl | rfl | rfl <;> simp)))
      have MK := Lib.hid hm
      have ZG := Lib.hid (show g1b < w13.heap.size ∧ g2b < w13.heap.size ∧ g3b < w13.heap.size ∧ g4b < w13.heap.size by have := hk.1.size; have := S12.out; have := ZB.out; omega)
      have NB := Lib.hid (show n1b ≤ 12 ∧ n2b ≤ 4 ∧ n3b ≤ 4 ∧ n4b ≤ 1000000 by
        have o := OB12.out
        have l1 := o.l1; have l2 := o.l2; have l3 := o.l3; have l4 := o.l4
        dsimp only at l1 l2 l3 l4
        have := SD.out
        omega)
      obtain ⟨tot, ht⟩ : ∃ tot : Nat, tot = Rp.tot ⟨A1b, n1b, c1b, A2b, n2b, c2b, A3b, n3b, c3b, A4b, n4b, c4b, g1b, g2b, g3b, g4b⟩ := ⟨_, rfl⟩
      rw [← ht]
      have HE : Hid (∀ W, Below w13.heap.size w13 W → Calls Try.prog 13 #[.agg #[.int .i64 dq, .slice A1b n1b c1b, .slice A2b n2b c2b, .slice A3b n3b c3b, .int .i64 dK.tick, .int .i64 dK.run, .slice A4b n4b c4b], .int .i64 1] W fun e w' => e = .returned (.int .i64 (tot : Int)) ∧ Below w13.heap.size w13 w') := fun W hW => by
        have := heldR_own (p := ⟨A1b, n1b, c1b, A2b, n2b, c2b, A3b, n3b, c3b, A4b, n4b, c4b, g1b, g2b, g3b, g4b⟩) (q := dq) (K := dK) NB.out (MK.out.below hW ZG.out) (by have := ZG.out; have := hW.size; dsimp only; omega)
        rw [← ht] at this
        exact this.mono fun e w' hh => ⟨hh.1, hW.trans (hh.2.mono hW.size)⟩
      clear ht hm hk K12 S12 OB12 oA
      have t1 : ((tot : Int) < 0) = False := by simp
      have t2 : ((tot : Int) != (tot : Int)) = false := by simp
      clear x0 x1 x2 x3 x4 x5 x6 y0 y1 y2 y3 y4 y5 y6 z0 z1 z2 z3 z4 q0 q1 q2 q3 q4 p0 p1 p2 p3
      obtain ⟨⟨x0, x1, x2, x3, x4, x5, x6⟩, ⟨y0, y1, y2, y3, y4, y5, y6⟩, ⟨z0, z1, z2, z3, z4⟩, ⟨⟨q0, q1, q2, q3, q4⟩, p0, p1, p2, p3⟩, oA⟩ := QA.out w13 K13.out
      go_wp2_with fail
      refine (HE.out _ (Below.refl _ _)).mono ?_
      rintro e9 w14 ⟨rfl, hb⟩
      have H14 := Lib.hid hb
      have K14 := Lib.hid (K13.out.then_below hb)
      clear hb oA
      clear x0 x1 x2 x3 x4 x5 x6 y0 y1 y2 y3 y4 y5 y6 z0 z1 z2 z3 z4 q0 q1 q2 q3 q4 p0 p1 p2 p3
      obtain ⟨⟨x0, x1, x2, x3, x4, x5, x6⟩, ⟨y0, y1, y2, y3, y4, y5, y6⟩, ⟨z0, z1, z2, z3, z4⟩, ⟨⟨q0, q1, q2, q3, q4⟩, p0, p1, p2, p3⟩, oA⟩ := QA.out w14 K14.out
      clear x0 y0 x1 y1 x2 y2 x3 y3 x4 y4 x5 y5 x6 y6 z0 z1 z2 z3 z4 oA
      -- once more
      have TK : Hid (∀ W, Below w14.heap.size w14 W → Calls Try.prog 6 #[.agg #[.slice A1 n1 c1, .slice A2 n2 c2, .slice A3 n3 c3, .int .i64 K.tick, .int .i64 K.run]] W fun e w' => ∃ u1 u2 u3, e = .returned (.agg #[.slice (some ⟨u1, 0, none⟩) n1 n1, .slice (some ⟨u2, 0, none⟩) n2 n2, .slice (some ⟨u3, 0, none⟩) n3 n3, .int .i64 K.tick, .int .i64 K.run]) ∧ KRead w' 0 w'.heap.size (some ⟨u1, 0, none⟩) n1 (some ⟨u2, 0, none⟩) n2 (some ⟨u3, 0, none⟩) n3 K ∧ Below w14.heap.size w14 w' ∧ Below W.heap.size W w') := fun W hW =>
        (TK.out W (UP.out W (K14.out.then_below hW))).mono fun e w' ⟨u1, u2, u3, he, hk, _, hb⟩ => ⟨u1, u2, u3, he, hk, hW.trans (hb.mono hW.size), hb⟩
      have KS : Hid (∀ W, Below w14.heap.size w14 W → ((W.cell? ⟨w.heap.size, 0, none⟩ = some (.slice A1 n1 c1) ∧ W.cell? ⟨w.heap.size, 1, none⟩ = some (.slice A2 n2 c2) ∧ W.cell? ⟨w.heap.size, 2, none⟩ = some (.slice A3 n3 c3) ∧ W.cell? ⟨w.heap.size, 3, none⟩ = some (.int .i64 K.tick) ∧ W.cell? ⟨w.heap.size, 4, none⟩ = some (.int .i64 K.run)) ∧ (W.cell? ⟨w.heap.size + 1, 0, none⟩ = some (.int .i64 kk) ∧ W.cell? ⟨w.heap.size + 1, 1, none⟩ = some (.int .i64 e) ∧ W.cell? ⟨w.heap.size + 1, 2, none⟩ = some (.int .i64 s) ∧ W.cell? ⟨w.heap.size + 1, 3, none⟩ = some (.int .i64 to)))) := fun W hW => KS6.out W (UP.out W (K14.out.then_below hW))
      go_upto_region 24 with (fail)
      go_cut [12] from 13 (fun x wx => ∃ gb, x = .pointer (some ⟨gb, 0, none⟩) ∧ AnsAt w14 gb dq dK dn wx)
      case first => as_aux_lemma =>
        refine wp_region_held_drew (S := fun W => ((W.cell? ⟨w.heap.size, 0, none⟩ = some (.slice A1 n1 c1) ∧ W.cell? ⟨w.heap.size, 1, none⟩ = some (.slice A2 n2 c2) ∧ W.cell? ⟨w.heap.size, 2, none⟩ = some (.slice A3 n3 c3) ∧ W.cell? ⟨w.heap.size, 3, none⟩ = some (.int .i64 K.tick) ∧ W.cell? ⟨w.heap.size, 4, none⟩ = some (.int .i64 K.run)) ∧ (W.cell? ⟨w.heap.size + 1, 0, none⟩ = some (.int .i64 kk) ∧ W.cell? ⟨w.heap.size + 1, 1, none⟩ = some (.int .i64 e) ∧ W.cell? ⟨w.heap.size + 1, 2, none⟩ = some (.int .i64 s) ∧ W.cell? ⟨w.heap.size + 1, 3, none⟩ = some (.int .i64 to)))) (by kernel_rfl) (KS.out _ (Below.drew (Below.refl _ _))) (fun hHeld => ?_)
        obtain ⟨v0, hv0⟩ : ∃ v0, v0 = w14.drew := ⟨_, rfl⟩
        have BL0 : Hid (Below w14.heap.size w14 v0) := by rw [hv0]; exact Below.drew (Below.refl _ _)
        rw [← hv0] at hHeld ⊢
        clear hv0
        refine wpAnyH_take (i := 0) (oi := _) (v := ?_) rfl (by kernel_rfl) (by kernel_rfl) (by kernel_rfl) (fun _ _ _ h => h) (Or.inl ⟨by rfl, ?_⟩) hHeld ?_
        rotate_left
        · (intro w hSw; (try dsimp only at hSw); go_simp; try with_reducible rfl)
        try simp only [Act.put, List.setIfInBounds_toArray, List.set_cons_zero, List.set_cons_succ]
        refine wpAnyH_take (i := 2) (oi := _) (v := ?_) rfl (by kernel_rfl) (by kernel_rfl) (by kernel_rfl) (fun _ _ _ h => h) (Or.inl ⟨by rfl, ?_⟩) hHeld ?_
        rotate_left
        · (intro w hSw; (try dsimp only at hSw); go_simp; try with_reducible rfl)
        try simp only [Act.put, List.setIfInBounds_toArray, List.set_cons_zero, List.set_cons_succ]
        refine wpAnyH_ready (rs := [1, 5]) (by kernel_rfl) (by simp) ?_
        refine AllReadyH.cons (o := _) rfl (fun K0 hK0 => ?_) (AllReadyH.cons (o := _) rfl (fun K0 hK0 => ?_) (AllReadyH.nil))
        · go_simp
          refine (TK.out _ BL0.out).mono ?_
          rintro e9 v22 ⟨u1, u2, u3, rfl, hku, hb1, hb2⟩
          go_wp2_with fail
          have KR22 := Lib.hid hku
          obtain ⟨hk, hhk⟩ : ∃ hk, hk = v22.heap.size := ⟨_, rfl⟩
          rw [← hhk] at KR22
          have HK22 := Lib.hid (show hk ≤ v22.heap.size by omega)
          clear hku hb1 hhk
          have BL22 := Lib.hid (BL0.out.trans (hb2.mono BL0.out.size))
          clear hb2
          refine hK0.out _ _ (KS.out _ BL22.out) (fun hHeld => ?_)
          clear hK0 K0
          try simp only [Act.put, List.setIfInBounds_toArray, List.set_cons_zero, List.set_cons_succ]
          refine wpAnyH_ready (rs := [3, 5]) (by kernel_rfl) (by simp) ?_
          refine AllReadyH.cons (o := _) rfl (fun K0 hK0 => ?_) (AllReadyH.cons (o := _) rfl (fun K0 hK0 => ?_) (AllReadyH.nil))
          · go_simp
            refine (toCall_any kk e s to _).mono ?_
            rintro e9 v23 ⟨rfl, hb2⟩
            go_wp2_with fail
            have BL23 := Lib.hid (BL22.out.trans (hb2.mono BL22.out.size))
            have KR23 := Lib.hid (KR22.out.below hb2 HK22.out)
            have HK23 := Lib.hid (Nat.le_trans HK22.out hb2.size)
            clear hb2
            refine hK0.out _ _ (KS.out _ BL23.out) (fun hHeld => ?_)
            clear hK0 K0
            try simp only [Act.put, List.setIfInBounds_toArray, List.set_cons_zero, List.set_cons_succ]
            refine wpAnyH_ready (rs := [4, 5]) (by kernel_rfl) (by simp) ?_
            refine AllReadyH.cons (o := _) rfl (fun K0 hK0 => ?_) (AllReadyH.cons (o := _) rfl (fun K0 hK0 => ?_) (AllReadyH.nil))
            · go_simp
              refine (IPD.out v23 u1 u2 u3 _ KR23.out).mono ?_
              rintro e9 v24 ⟨p, rfl, ho, hb2⟩
              unfold Rp.val
              go_wp2_with fail
              have OW24 := Lib.hid ho
              have ZS := Lib.hid (show w14.heap.size ≤ v23.heap.size ∧ v23.heap.size ≤ v24.heap.size from ⟨BL23.out.size, hb2.size⟩)
              have ZE24 := Lib.hid (show v24.heap.size ≤ v24.heap.size from Nat.le_refl _)
              clear ho
              have BL24 := Lib.hid (BL23.out.trans (hb2.mono BL23.out.size))
              have KR24 := Lib.hid (KR23.out.below hb2 HK23.out)
              have HK24 := Lib.hid (Nat.le_trans HK23.out hb2.size)
              clear hb2
              refine hK0.out _ _ (KS.out _ BL24.out) (fun hHeld => ?_)
              clear hK0 K0
              try simp only [Act.put, List.setIfInBounds_toArray, List.set_cons_zero, List.set_cons_succ]
              refine wpAnyH_ready (rs := [5]) (by kernel_rfl) (by simp) ?_
              refine AllReadyH.cons (o := _) rfl (fun K0 hK0 => ?_) (AllReadyH.nil)
              · go_simp
                obtain ⟨v25, hv⟩ : ∃ v25, v25 = v24.alloc (.cells #[.int .i64 0, .slice none 0 0, .slice none 0 0, .slice none 0 0, .int .i64 0, .int .i64 0, .slice none 0 0] 35) := ⟨_, rfl⟩
                obtain ⟨gb, hgb⟩ : ∃ gb, gb = v24.heap.size := ⟨_, rfl⟩
                rw [← hv, ← hgb]
                have XB25 : Hid (v25.heap[gb]? = some (.cells #[.int .i64 0, .slice none 0 0, .slice none 0 0, .slice none 0 0, .int .i64 0, .int .i64 0, .slice none 0 0] 35 (0, 0))) := by rw [hv, hgb]; exact heap_alloc_new v24 _
                have hb2 : Below v24.heap.size v24 v25 := by rw [hv]; exact below_new v24 _
                have GB := Lib.hid (show w14.heap.size ≤ gb ∧ v24.heap.size ≤ gb ∧ gb < v25.heap.size by have := BL24.out.size; rw [hv, hgb]; simp; omega)
                clear hv hgb
                have GS := Lib.hid (show v24.heap.size ≤ gb by have := ZE24.out; have := GB.out; omega)
                have BL25 := Lib.hid (BL24.out.trans (hb2.mono BL24.out.size))
                have KR25 := Lib.hid (KR24.out.below hb2 HK24.out)
                have HK25 := Lib.hid (Nat.le_trans HK24.out hb2.size)
                have OW25 := Lib.hid (OW24.out.kep (Kept.of_below hb2 []) (by simp) (by simp) (by simp) (by simp))
                have ZE25 := Lib.hid (Nat.le_trans ZE24.out hb2.size)
                clear hb2
                refine hK0.out _ _ (KS.out _ BL25.out) (fun hHeld => ?_)
                clear hK0 K0
                try simp only [Act.put, List.setIfInBounds_toArray, List.set_cons_zero, List.set_cons_succ]
                refine wpAnyH_ready (rs := [6]) (by kernel_rfl) (by simp) ?_
                refine AllReadyH.cons (o := _) rfl (fun K0 hK0 => ?_) AllReadyH.nil
                have FA := Lib.hid (ansAt_of (w := w14) (q := dq) XB25.out OW25.out (.inr GS.out) (by have := ZS.out; omega) (by have := ZE25.out; omega) (by have := GB.out; omega) BL25.out)
                have KF := Lib.hid (KS.out _ (by obtain ⟨_, _, _, _, _, h⟩ := FA.out; exact h))
                clear hHeld
                rw [if_pos (by rfl)]
                refine wp_store_row 35 _ _ rfl gb _ rfl rfl 35 _ XB25.out (by kernel_rfl) rfl (by simp [Value.oneCell']) ?_
                refine hK0.out _ _ KF.out (fun hHeld => ?_)
                clear hK0 K0
                refine wpAnyH_done (by kernel_rfl) ?_ _
                go_wp2_with fail
                go_meet
                with_reducible exact ⟨_, rfl, FA.out⟩
            · go_simp
              obtain ⟨v26, hv⟩ : ∃ v26, v26 = v23.alloc (.cells #[.int .i64 0, .slice none 0 0, .slice none 0 0, .slice none 0 0, .int .i64 0, .int .i64 0, .slice none 0 0] 35) := ⟨_, rfl⟩
              obtain ⟨gb, hgb⟩ : ∃ gb, gb = v23.heap.size := ⟨_, rfl⟩
              rw [← hv, ← hgb]
              have XB26 : Hid (v26.heap[gb]? = some (.cells #[.int .i64 0, .slice none 0 0, .slice none 0 0, .slice none 0 0, .int .i64 0, .int .i64 0, .slice none 0 0] 35 (0, 0))) := by rw [hv, hgb]; exact heap_alloc_new v23 _
              have hb2 : Below v23.heap.size v23 v26 := by rw [hv]; exact below_new v23 _
              have GB := Lib.hid (show w14.heap.size ≤ gb ∧ v23.heap.size ≤ gb ∧ gb < v26.heap.size by have := BL23.out.size; rw [hv, hgb]; simp; omega)
              clear hv hgb
              have BL26 := Lib.hid (BL23.out.trans (hb2.mono BL23.out.size))
              have KR26 := Lib.hid (KR23.out.below hb2 HK23.out)
              have HK26 := Lib.hid (Nat.le_trans HK23.out hb2.size)
              clear hb2
              refine hK0.out _ _ (KS.out _ BL26.out) (fun hHeld => ?_)
              clear hK0 K0
              try simp only [Act.put, List.setIfInBounds_toArray, List.set_cons_zero, List.set_cons_succ]
              refine wpAnyH_ready (rs := [4]) (by kernel_rfl) (by simp) ?_
              refine AllReadyH.cons (o := _) rfl (fun K0 hK0 => ?_) (AllReadyH.nil)
              · go_simp
                have GS := Lib.hid (show gb < v26.heap.size from (Array.getElem?_eq_some_iff.1 XB26.out).1)
                refine (IPD.out v26 u1 u2 u3 _ KR26.out).mono ?_
                rintro e9 v27 ⟨p, rfl, ho, hb2⟩
                unfold Rp.val
                go_wp2_with fail
                have OW27 := Lib.hid ho
                have ZS := Lib.hid (show w14.heap.size ≤ v26.heap.size ∧ v26.heap.size ≤ v27.heap.size from ⟨BL26.out.size, hb2.size⟩)
                have ZE27 := Lib.hid (show v27.heap.size ≤ v27.heap.size from Nat.le_refl _)
                clear ho
                have BL27 := Lib.hid (BL26.out.trans (hb2.mono BL26.out.size))
                have XB27 := Lib.hid ((hb2.block gb (Array.getElem?_eq_some_iff.1 XB26.out).1).trans XB26.out)
                have KR27 := Lib.hid (KR26.out.below hb2 HK26.out)
                have HK27 := Lib.hid (Nat.le_trans HK26.out hb2.size)
                clear hb2
                refine hK0.out _ _ (KS.out _ BL27.out) (fun hHeld => ?_)
                clear hK0 K0
                try simp only [Act.put, List.setIfInBounds_toArray, List.set_cons_zero, List.set_cons_succ]
                refine wpAnyH_ready (rs := [6]) (by kernel_rfl) (by simp) ?_
                refine AllReadyH.cons (o := _) rfl (fun K0 hK0 => ?_) AllReadyH.nil
                have FA := Lib.hid (ansAt_of (w := w14) (q := dq) XB27.out OW27.out (.inl GS.out) (by have := ZS.out; omega) (by have := ZE27.out; omega) (by have := GB.out; omega) BL27.out)
                have KF := Lib.hid (KS.out _ (by obtain ⟨_, _, _, _, _, h⟩ := FA.out; exact h))
                clear hHeld
                rw [if_pos (by rfl)]
                refine wp_store_row 35 _ _ rfl gb _ rfl rfl 35 _ XB27.out (by kernel_rfl) rfl (by simp [Value.oneCell']) ?_
                refine hK0.out _ _ KF.out (fun hHeld => ?_)
                clear hK0 K0
                refine wpAnyH_done (by kernel_rfl) ?_ _
                go_wp2_with fail
                go_meet
                with_reducible exact ⟨_, rfl, FA.out⟩
          · go_simp
            obtain ⟨v28, hv⟩ : ∃ v28, v28 = v22.alloc (.cells #[.int .i64 0, .slice none 0 0, .slice none 0 0, .slice none 0 0, .int .i64 0, .int .i64 0, .slice none 0 0] 35) := ⟨_, rfl⟩
            obtain ⟨gb, hgb⟩ : ∃ gb, gb = v22.heap.size := ⟨_, rfl⟩
            rw [← hv, ← hgb]
            have XB28 : Hid (v28.heap[gb]? = some (.cells #[.int .i64 0, .slice none 0 0, .slice none 0 0, .slice none 0 0, .int .i64 0, .int .i64 0, .slice none 0 0] 35 (0, 0))) := by rw [hv, hgb]; exact heap_alloc_new v22 _
            have hb2 : Below v22.heap.size v22 v28 := by rw [hv]; exact below_new v22 _
            have GB := Lib.hid (show w14.heap.size ≤ gb ∧ v22.heap.size ≤ gb ∧ gb < v28.heap.size by have := BL22.out.size; rw [hv, hgb]; simp; omega)
            clear hv hgb
            have BL28 := Lib.hid (BL22.out.trans (hb2.mono BL22.out.size))
            have KR28 := Lib.hid (KR22.out.below hb2 HK22.out)
            have HK28 := Lib.hid (Nat.le_trans HK22.out hb2.size)
            clear hb2
            refine hK0.out _ _ (KS.out _ BL28.out) (fun hHeld => ?_)
            clear hK0 K0
            try simp only [Act.put, List.setIfInBounds_toArray, List.set_cons_zero, List.set_cons_succ]
            refine wpAnyH_ready (rs := [3]) (by kernel_rfl) (by simp) ?_
            refine AllReadyH.cons (o := _) rfl (fun K0 hK0 => ?_) (AllReadyH.nil)
            · go_simp
              refine (toCall_any kk e s to _).mono ?_
              rintro e9 v29 ⟨rfl, hb2⟩
              go_wp2_with fail
              have BL29 := Lib.hid (BL28.out.trans (hb2.mono BL28.out.size))
              have XB29 := Lib.hid ((hb2.block gb (Array.getElem?_eq_some_iff.1 XB28.out).1).trans XB28.out)
              have KR29 := Lib.hid (KR28.out.below hb2 HK28.out)
              have HK29 := Lib.hid (Nat.le_trans HK28.out hb2.size)
              clear hb2
              refine hK0.out _ _ (KS.out _ BL29.out) (fun hHeld => ?_)
              clear hK0 K0
              try simp only [Act.put, List.setIfInBounds_toArray, List.set_cons_zero, List.set_cons_succ]
              refine wpAnyH_ready (rs := [4]) (by kernel_rfl) (by simp) ?_
              refine AllReadyH.cons (o := _) rfl (fun K0 hK0 => ?_) (AllReadyH.nil)
              · go_simp
                have GS := Lib.hid (show gb < v29.heap.size from (Array.getElem?_eq_some_iff.1 XB29.out).1)
                refine (IPD.out v29 u1 u2 u3 _ KR29.out).mono ?_
                rintro e9 v30 ⟨p, rfl, ho, hb2⟩
                unfold Rp.val
                go_wp2_with fail
                have OW30 := Lib.hid ho
                have ZS := Lib.hid (show w14.heap.size ≤ v29.heap.size ∧ v29.heap.size ≤ v30.heap.size from ⟨BL29.out.size, hb2.size⟩)
                have ZE30 := Lib.hid (show v30.heap.size ≤ v30.heap.size from Nat.le_refl _)
                clear ho
                have BL30 := Lib.hid (BL29.out.trans (hb2.mono BL29.out.size))
                have XB30 := Lib.hid ((hb2.block gb (Array.getElem?_eq_some_iff.1 XB29.out).1).trans XB29.out)
                have KR30 := Lib.hid (KR29.out.below hb2 HK29.out)
                have HK30 := Lib.hid (Nat.le_trans HK29.out hb2.size)
                clear hb2
                refine hK0.out _ _ (KS.out _ BL30.out) (fun hHeld => ?_)
                clear hK0 K0
                try simp only [Act.put, List.setIfInBounds_toArray, List.set_cons_zero, List.set_cons_succ]
                refine wpAnyH_ready (rs := [6]) (by kernel_rfl) (by simp) ?_
                refine AllReadyH.cons (o := _) rfl (fun K0 hK0 => ?_) AllReadyH.nil
                have FA := Lib.hid (ansAt_of (w := w14) (q := dq) XB30.out OW30.out (.inl GS.out) (by have := ZS.out; omega) (by have := ZE30.out; omega) (by have := GB.out; omega) BL30.out)
                have KF := Lib.hid (KS.out _ (by obtain ⟨_, _, _, _, _, h⟩ := FA.out; exact h))
                clear hHeld
                rw [if_pos (by rfl)]
                refine wp_store_row 35 _ _ rfl gb _ rfl rfl 35 _ XB30.out (by kernel_rfl) rfl (by simp [Value.oneCell']) ?_
                refine hK0.out _ _ KF.out (fun hHeld => ?_)
                clear hK0 K0
                refine wpAnyH_done (by kernel_rfl) ?_ _
                go_wp2_with fail
                go_meet
                with_reducible exact ⟨_, rfl, FA.out⟩
        · go_simp
          obtain ⟨v31, hv⟩ : ∃ v31, v31 = v0.alloc (.cells #[.int .i64 0, .slice none 0 0, .slice none 0 0, .slice none 0 0, .int .i64 0, .int .i64 0, .slice none 0 0] 35) := ⟨_, rfl⟩
          obtain ⟨gb, hgb⟩ : ∃ gb, gb = v0.heap.size := ⟨_, rfl⟩
          rw [← hv, ← hgb]
          have XB31 : Hid (v31.heap[gb]? = some (.cells #[.int .i64 0, .slice none 0 0, .slice none 0 0, .slice none 0 0, .int .i64 0, .int .i64 0, .slice none 0 0] 35 (0, 0))) := by rw [hv, hgb]; exact heap_alloc_new v0 _
          have hb2 : Below v0.heap.size v0 v31 := by rw [hv]; exact below_new v0 _
          have GB := Lib.hid (show w14.heap.size ≤ gb ∧ v0.heap.size ≤ gb ∧ gb < v31.heap.size by have := BL0.out.size; rw [hv, hgb]; simp; omega)
          clear hv hgb
          have BL31 := Lib.hid (BL0.out.trans (hb2.mono BL0.out.size))
          clear hb2
          refine hK0.out _ _ (KS.out _ BL31.out) (fun hHeld => ?_)
          clear hK0 K0
          try simp only [Act.put, List.setIfInBounds_toArray, List.set_cons_zero, List.set_cons_succ]
          refine wpAnyH_ready (rs := [1]) (by kernel_rfl) (by simp) ?_
          refine AllReadyH.cons (o := _) rfl (fun K0 hK0 => ?_) (AllReadyH.nil)
          · go_simp
            refine (TK.out _ BL31.out).mono ?_
            rintro e9 v32 ⟨u1, u2, u3, rfl, hku, hb1, hb2⟩
            go_wp2_with fail
            have KR32 := Lib.hid hku
            obtain ⟨hk, hhk⟩ : ∃ hk, hk = v32.heap.size := ⟨_, rfl⟩
            rw [← hhk] at KR32
            have HK32 := Lib.hid (show hk ≤ v32.heap.size by omega)
            clear hku hb1 hhk
            have BL32 := Lib.hid (BL31.out.trans (hb2.mono BL31.out.size))
            have XB32 := Lib.hid ((hb2.block gb (Array.getElem?_eq_some_iff.1 XB31.out).1).trans XB31.out)
            clear hb2
            refine hK0.out _ _ (KS.out _ BL32.out) (fun hHeld => ?_)
            clear hK0 K0
            try simp only [Act.put, List.setIfInBounds_toArray, List.set_cons_zero, List.set_cons_succ]
            refine wpAnyH_ready (rs := [3]) (by kernel_rfl) (by simp) ?_
            refine AllReadyH.cons (o := _) rfl (fun K0 hK0 => ?_) (AllReadyH.nil)
            · go_simp
              refine (toCall_any kk e s to _).mono ?_
              rintro e9 v33 ⟨rfl, hb2⟩
              go_wp2_with fail
              have BL33 := Lib.hid (BL32.out.trans (hb2.mono BL32.out.size))
              have XB33 := Lib.hid ((hb2.block gb (Array.getElem?_eq_some_iff.1 XB32.out).1).trans XB32.out)
              have KR33 := Lib.hid (KR32.out.below hb2 HK32.out)
              have HK33 := Lib.hid (Nat.le_trans HK32.out hb2.size)
              clear hb2
              refine hK0.out _ _ (KS.out _ BL33.out) (fun hHeld => ?_)
              clear hK0 K0
              try simp only [Act.put, List.setIfInBounds_toArray, List.set_cons_zero, List.set_cons_succ]
              refine wpAnyH_ready (rs := [4]) (by kernel_rfl) (by simp) ?_
              refine AllReadyH.cons (o := _) rfl (fun K0 hK0 => ?_) (AllReadyH.nil)
              · go_simp
                have GS := Lib.hid (show gb < v33.heap.size from (Array.getElem?_eq_some_iff.1 XB33.out).1)
                refine (IPD.out v33 u1 u2 u3 _ KR33.out).mono ?_
                rintro e9 v34 ⟨p, rfl, ho, hb2⟩
                unfold Rp.val
                go_wp2_with fail
                have OW34 := Lib.hid ho
                have ZS := Lib.hid (show w14.heap.size ≤ v33.heap.size ∧ v33.heap.size ≤ v34.heap.size from ⟨BL33.out.size, hb2.size⟩)
                have ZE34 := Lib.hid (show v34.heap.size ≤ v34.heap.size from Nat.le_refl _)
                clear ho
                have BL34 := Lib.hid (BL33.out.trans (hb2.mono BL33.out.size))
                have XB34 := Lib.hid ((hb2.block gb (Array.getElem?_eq_some_iff.1 XB33.out).1).trans XB33.out)
                have KR34 := Lib.hid (KR33.out.below hb2 HK33.out)
                have HK34 := Lib.hid (Nat.le_trans HK33.out hb2.size)
                clear hb2
                refine hK0.out _ _ (KS.out _ BL34.out) (fun hHeld => ?_)
                clear hK0 K0
                try simp only [Act.put, List.setIfInBounds_toArray, List.set_cons_zero, List.set_cons_succ]
                refine wpAnyH_ready (rs := [6]) (by kernel_rfl) (by simp) ?_
                refine AllReadyH.cons (o := _) rfl (fun K0 hK0 => ?_) AllReadyH.nil
                have FA := Lib.hid (ansAt_of (w := w14) (q := dq) XB34.out OW34.out (.inl GS.out) (by have := ZS.out; omega) (by have := ZE34.out; omega) (by have := GB.out; omega) BL34.out)
                have KF := Lib.hid (KS.out _ (by obtain ⟨_, _, _, _, _, h⟩ := FA.out; exact h))
                clear hHeld
                rw [if_pos (by rfl)]
                refine wp_store_row 35 _ _ rfl gb _ rfl rfl 35 _ XB34.out (by kernel_rfl) rfl (by simp [Value.oneCell']) ?_
                refine hK0.out _ _ KF.out (fun hHeld => ?_)
                clear hK0 K0
                refine wpAnyH_done (by kernel_rfl) ?_ _
                go_wp2_with fail
                go_meet
                with_reducible exact ⟨_, rfl, FA.out⟩
      case rest =>
        obtain ⟨b12, rfl, hA12⟩ := hcut
        have hf := hA12.fst
        obtain ⟨⟨A1c, n1c, c1c, A2c, n2c, c2c, A3c, n3c, c3c, A4c, n4c, c4c, g1c, g2c, g3c, g4c⟩, xc, oc, dc, zc, _⟩ := hA12
        dsimp only at xc dc
        have K15 := Lib.hid (K14.out.then_below hf)
        have H15 := Lib.hid (H14.out.trans (hf.mono H14.out.size))
        have OC := Lib.hid oc
        obtain ⟨⟨x0, x1, x2, x3, x4, x5, x6⟩, ⟨y0, y1, y2, y3, y4, y5, y6⟩, _, _, oA⟩ := QA.out wc K15.out
        have M0 : (wc.cell? ⟨b12, 0, none⟩ = some (.int .i64 dq) ∧ wc.cell? ⟨b12, 1, none⟩ = some (.slice A1c n1c c1c) ∧ wc.cell? ⟨b12, 2, none⟩ = some (.slice A2c n2c c2c) ∧ wc.cell? ⟨b12, 3, none⟩ = some (.slice A3c n3c c3c) ∧ wc.cell? ⟨b12, 4, none⟩ = some (.int .i64 dK.tick) ∧ wc.cell? ⟨b12, 5, none⟩ = some (.int .i64 dK.run) ∧ wc.cell? ⟨b12, 6, none⟩ = some (.slice A4c n4c c4c)) := ⟨cell_of_row wc _ 0 _ _ _ xc, cell_of_row wc _ 1 _ _ _ xc, cell_of_row wc _ 2 _ _ _ xc, cell_of_row wc _ 3 _ _ _ xc, cell_of_row wc _ 4 _ _ _ xc, cell_of_row wc _ 5 _ _ _ xc, cell_of_row wc _ 6 _ _ _ xc⟩
        obtain ⟨r0, r1, r2, r3, r4, r5, r6⟩ := M0
        clear hf xc oc dc zc q0 q1 q2 q3 q4 p0 p1 p2 p3
        go_wp2_with fail
        refine (eqR_own (p := ⟨A1c, n1c, c1c, A2c, n2c, c2c, A3c, n3c, c3c, A4c, n4c, c4c, g1c, g2c, g3c, g4c⟩) (p' := ⟨A1a, n1a, c1a, A2a, n2a, c2a, A3a, n3a, c3a, A4a, n4a, c4a, g1a, g2a, g3a, g4a⟩) SD.out OC.out oA).mono ?_
        rintro e9 w16 ⟨rfl, hb⟩
        have K16 := Lib.hid (K15.out.then_below hb)
        have H16 := Lib.hid (H15.out.trans (hb.mono H15.out.size))
        clear hb oA K15 H15 r0 r1 r2 r3 r4 r5 r6
        clear x0 x1 x2 x3 x4 x5 x6 y0 y1 y2 y3 y4 y5 y6
        obtain ⟨⟨x0, x1, x2, x3, x4, x5, x6⟩, ⟨y0, y1, y2, y3, y4, y5, y6⟩, _, _, oA⟩ := QA.out w16 K16.out
        go_wp2_with fail
        refine (HE.out _ H16.out).mono ?_
        rintro e9 w17 ⟨rfl, hb⟩
        have FR := Lib.hid (FIN.out _ (R2.out.trans ((UP.out _ (K13.out.then_below hb)).mono R2.out.size)))
        clear hb oA
        clear x0 x1 x2 x3 x4 x5 x6 y0 y1 y2 y3 y4 y5 y6
        go_wp2
        go_ret
        exact ⟨rfl, FR.out⟩

end Go.Proofs.Ytbodmjdniblhgaa
