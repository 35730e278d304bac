/-
  The walk of FnExactPushHeap: whatever the list and the entry that came in, it returns true.
-/
import Derived.Test.YtfaamjbdffcngaaKit4b
import Derived.Test.YtfaamjbdffcngaaSpec4h
import Derived.Test.YtfaamjbdffcngaaImpl4i
import Derived.Test.YtfaamjbdffcngaaImpl4j
namespace Go.Proofs.Ytfaamjbdffcngaa
open Go.RowKit
set_option maxRecDepth 100000

theorem or_neT {t t' : TypeId} {m : Nat} {w : World} {base gx n c g : Nat} {hs : List Int} {cs : Array Value} (k : w.heap[gx]? = some (.cells cs t' (0, 0))) (hne : t ≠ t') (h : OR t m w base (some ⟨g, 0, none⟩) n c hs) : g ≠ gx := by
  rintro rfl
  rcases h.2 with ⟨h', _⟩ | ⟨g', cap', cur, h', _, hg, _⟩
  · cases h'
  · injection h' with h' _ _
    injection h' with h'
    injection h' with h'
    subst h'
    have e := k.symm.trans hg
    injection e with e
    injection e with _ e _
    exact hne e.symm

set_option maxHeartbeats 8000000 in
theorem walkPushHeap (A : Option Addr) (n c : Nat) (xs : List Int) (p d : Int) (w : World) (hn : n ≤ 9223372036854775807) (hl : xs.length = n * 2) (h : Sl w 0 w.heap.size A (n * 2) (fun k => .int .i64 (gi xs k))) :
    Calls Try.prog 6 #[.slice A n c, .agg #[.int .i64 p, .int .i64 d]] w fun e w' => e = .returned (.bool true) ∧ Below w.heap.size w w' := by
  obtain ⟨w1, hw1⟩ : ∃ w1, w1 = w.alloc (.cells #[.int .i64 p, .int .i64 d] 41) := ⟨_, rfl⟩
  have k1 : w1.heap[w.heap.size]? = some (.cells #[.int .i64 p, .int .i64 d] 41 (0, 0)) := by rw [hw1]; exact heap_alloc_new w _
  have B1 := Lib.hid (show Below w.heap.size w w1 by rw [hw1]; exact below_new w _)
  have Z1 := Lib.hid (show w1.heap.size = w.heap.size + 1 by rw [hw1]; simp)
  have QE : Hid (∀ W, Below w1.heap.size w1 W → W.cell? ⟨w.heap.size, 0, none⟩ = some (.int .i64 p) ∧ W.cell? ⟨w.heap.size, 1, none⟩ = some (.int .i64 d)) := fun W hW => by
    have j := (hW.block w.heap.size (by have := Z1.out; omega)).trans k1
    exact ⟨cell_of_row W _ 0 _ _ _ j, cell_of_row W _ 1 _ _ _ j⟩
  have HW1 := Lib.hid hw1
  have HL := Lib.hid hl
  have HS := Lib.hid (h.below B1.out (Nat.le_refl _))
  clear h hl k1 hw1
  obtain ⟨q0, q1⟩ := QE.out w1 (Below.refl _ _)
  have SZ := Lib.hid (szEntryS_any A n c w1 hn)
  have FIN : Hid (∀ W, Below w1.heap.size w1 W → Below w.heap.size w W) := fun W hW => B1.out.trans (hW.mono (by have := Z1.out; omega))
  have TK : Hid (∀ W, Below w1.heap.size w1 W → n ≤ 1048576 → Calls Try.prog 30 #[.slice A n c] W fun e w' => e = .returned (.slice (some ⟨W.heap.size, 0, none⟩) n n) ∧ Mine w' W.heap.size (W.heap.size + 1) 26 (some ⟨W.heap.size, 0, none⟩) (n * 2) (fun k => .int .i64 (gi xs k)) ∧ Below W.heap.size W w' ∧ W.heap.size < w'.heap.size) := fun W hW h20 =>
    (toEntryS_any 0 w.heap.size A n c (gi xs) W (by omega) (HS.out.below hW (by have := Z1.out; omega)) (by have := hW.size; have := Z1.out; omega)).mono fun e w' ⟨h1, h2, h3⟩ => ⟨h1, .inr ⟨_, 0, rfl, Nat.le_refl _, Nat.lt_succ_self _, h2⟩, h3, h2.lt⟩
  go_enter Try.func6, Try.ntmps6
  go_upto_region 1 with (fail)
  rw [← HW1.out]
  clear HW1
  go_wp2_with fail
  refine SZ.out.mono ?_
  rintro e9 w2 ⟨rfl, rfl⟩
  clear SZ hn
  by_cases hs : n ≤ 1048576
  rotate_left
  · rw [if_neg hs]
    go_wp2
    go_ret
    exact ⟨rfl, FIN.out _ (Below.refl _ _)⟩
  have z20 : ¬ (1048576 - (n : Int) < 0) := by omega
  rw [if_pos hs]
  have H20 := Lib.hid hs
  have SP : Hid (∀ W u, Mine W u (u + 1) 26 (some ⟨u, 0, none⟩) (n * 2) (fun k => .int .i64 (gi xs k)) → Calls Try.prog 20 #[.slice (some ⟨u, 0, none⟩) n n, .agg #[.int .i64 p, .int .i64 d]] W (fun e w' => ∃ A' n' c', e = .returned (.agg #[.int .i64 (pushH xs n p d).1, .slice A' n' c']) ∧ OR 26 2 w' W.heap.size A' n' c' (pushH xs n p d).2 ∧ Below W.heap.size W w')) := fun W u hm =>
    specPushHeap_any u (u + 1) _ n n xs p d W (by have := H20.out; omega) HL.out (fun h => by cases h) hm.sl
  have IP : Hid (∀ W u, Mine W u (u + 1) 26 (some ⟨u, 0, none⟩) (n * 2) (fun k => .int .i64 (gi xs k)) → Calls Try.prog 12 #[.slice (some ⟨u, 0, none⟩) n n, .agg #[.int .i64 p, .int .i64 d]] W (fun e w' => ∃ A' n' c', e = .returned (.agg #[.int .i64 (pushH xs n p d).1, .slice A' n' c']) ∧ OR 26 2 w' W.heap.size A' n' c' (pushH xs n p d).2 ∧ Below W.heap.size W w')) := fun W u hm =>
    implPushHeap_any u (u + 1) _ n n xs p d W (by have := H20.out; omega) HL.out (fun h => by cases h) (Nat.le_refl _) hm.sl
  have SD : Hid (∃ j, ((pushH xs n p d).2).length = j * 2 ∧ j ≤ 12) := (by obtain ⟨j, h1, h2, _⟩ := pushH_len xs n p d HL.out; exact ⟨j, h1, h2⟩)
  generalize (pushH xs n p d).1 = q at *
  generalize (pushH xs n p d).2 = H at *
  have KS : Hid (∀ W, Below w1.heap.size w1 W → (W.cell? ⟨w.heap.size, 0, none⟩ = some (.int .i64 p) ∧ W.cell? ⟨w.heap.size, 1, none⟩ = some (.int .i64 d))) := QE
  go_upto_region 5 with (fail)
  go_cut [6] from 13 (fun x wx => ∃ gx Aw nw cw, x = .pointer (some ⟨gx, 0, none⟩) ∧ wx.heap[gx]? = some (.cells #[.int .i64 q, .slice Aw nw cw] 30 (0, 0)) ∧ OR 26 2 wx w1.heap.size Aw nw cw H ∧ (w1.heap.size ≤ gx ∧ gx < wx.heap.size) ∧ Below w1.heap.size w1 wx)
  case first => as_aux_lemma =>
    refine wp_region_held_drew (S := fun W => (W.cell? ⟨w.heap.size, 0, none⟩ = some (.int .i64 p) ∧ W.cell? ⟨w.heap.size, 1, none⟩ = some (.int .i64 d))) (by kernel_rfl) (KS.out _ (Below.drew (Below.refl _ _))) (fun hHeld => ?_)
    obtain ⟨v0, hv0⟩ : ∃ v0, v0 = w1.drew := ⟨_, rfl⟩
    have BL0 : Hid (Below w1.heap.size w1 v0) := by rw [hv0]; exact Below.drew (Below.refl _ _)
    rw [← hv0] at hHeld ⊢
    clear hv0
    refine wpAnyH_take (i := 0) (oi := _) (v := ?_) rfl (by kernel_rfl) (by kernel_rfl) (by kernel_rfl) (fun _ _ _ h => h) (Or.inl ⟨by rfl, ?_⟩) hHeld ?_
    rotate_left
    · (intro w hSw; (try dsimp only at hSw); go_simp; try with_reducible rfl)
    try simp only [Act.put, List.getElem_toArray, List.getElem_cons_succ, List.getElem_cons_zero, List.setIfInBounds_toArray, List.set_cons_zero, List.set_cons_succ]
    refine wpAnyH_take (i := 2) (oi := _) (v := ?_) rfl (by kernel_rfl) (by kernel_rfl) (by kernel_rfl) (fun _ _ _ h => h) (Or.inl ⟨by rfl, ?_⟩) hHeld ?_
    rotate_left
    · (intro w hSw; (try dsimp only at hSw); go_simp; try with_reducible rfl)
    try simp only [Act.put, List.getElem_toArray, List.getElem_cons_succ, List.getElem_cons_zero, List.setIfInBounds_toArray, List.set_cons_zero, List.set_cons_succ]
    refine wpAnyH_ready (rs := [1, 5]) (by kernel_rfl) (by simp) ?_
    refine AllReadyH.cons (o := _) rfl (fun K0 hK0 => ?_) (AllReadyH.cons (o := _) rfl (fun K0 hK0 => ?_) (AllReadyH.nil))
    · go_simp
      refine (TK.out _ BL0.out H20.out).mono ?_
      rintro e9 v1 ⟨rfl, hm, hb2, hs2⟩
      go_wp2_with fail
      have U1 := Lib.hid hm
      have UZ1 := Lib.hid hs2
      clear hm hs2
      have BL1 := Lib.hid (BL0.out.trans (hb2.mono BL0.out.size))
      clear hb2
      refine hK0.out _ _ (KS.out _ BL1.out) (fun hHeld => ?_)
      clear hK0 K0
      try simp only [Act.put, List.getElem_toArray, List.getElem_cons_succ, List.getElem_cons_zero, List.setIfInBounds_toArray, List.set_cons_zero, List.set_cons_succ]
      refine wpAnyH_ready (rs := [3, 5]) (by kernel_rfl) (by simp) ?_
      refine AllReadyH.cons (o := _) rfl (fun K0 hK0 => ?_) (AllReadyH.cons (o := _) rfl (fun K0 hK0 => ?_) (AllReadyH.nil))
      · go_simp
        refine (toEntry_any p d _).mono ?_
        rintro e9 v2 ⟨rfl, hb2⟩
        go_wp2_with fail
        have BL2 := Lib.hid (BL1.out.trans (hb2.mono BL1.out.size))
        have U2 := Lib.hid (U1.out.below hb2 UZ1.out)
        have UZ2 := Lib.hid (Nat.lt_of_lt_of_le UZ1.out hb2.size)
        clear hb2
        refine hK0.out _ _ (KS.out _ BL2.out) (fun hHeld => ?_)
        clear hK0 K0
        try simp only [Act.put, List.getElem_toArray, List.getElem_cons_succ, List.getElem_cons_zero, List.setIfInBounds_toArray, List.set_cons_zero, List.set_cons_succ]
        refine wpAnyH_ready (rs := [4, 5]) (by kernel_rfl) (by simp) ?_
        refine AllReadyH.cons (o := _) rfl (fun K0 hK0 => ?_) (AllReadyH.cons (o := _) rfl (fun K0 hK0 => ?_) (AllReadyH.nil))
        · go_simp
          refine (SP.out _ _ U2.out).mono ?_
          rintro e9 v3 ⟨Aw, nw, cw, rfl, ho, hb2⟩
          go_wp2_with fail
          have O3 := Lib.hid (OR.mono ho (show w1.heap.size ≤ v2.heap.size from BL2.out.size))
          clear ho
          have BL3 := Lib.hid (BL2.out.trans (hb2.mono BL2.out.size))
          clear hb2
          refine hK0.out _ _ (KS.out _ BL3.out) (fun hHeld => ?_)
          clear hK0 K0
          try simp only [Act.put, List.getElem_toArray, List.getElem_cons_succ, List.getElem_cons_zero, List.setIfInBounds_toArray, List.set_cons_zero, List.set_cons_succ]
          refine wpAnyH_ready (rs := [5]) (by kernel_rfl) (by simp) ?_
          refine AllReadyH.cons (o := _) rfl (fun K0 hK0 => ?_) (AllReadyH.nil)
          · go_simp
            obtain ⟨v4, hv⟩ : ∃ v4, v4 = v3.alloc (.cells #[.int .i64 0, .slice none 0 0] 30) := ⟨_, rfl⟩
            obtain ⟨gx, hgx⟩ : ∃ gx, gx = v3.heap.size := ⟨_, rfl⟩
            rw [← hv, ← hgx]
            have X4 := Lib.hid (show v4.heap[gx]? = some (.cells #[.int .i64 0, .slice none 0 0] 30 (0, 0)) by rw [hv, hgx]; exact heap_alloc_new v3 _)
            have hb2 : Below v3.heap.size v3 v4 := by rw [hv]; exact below_new v3 _
            have GB := Lib.hid (show w1.heap.size ≤ gx by rw [hgx]; exact BL3.out.size)
            clear hv hgx
            have BL4 := Lib.hid (BL3.out.trans (hb2.mono BL3.out.size))
            have O4 := Lib.hid (O3.out.below hb2 (Nat.le_refl _))
            clear hb2
            refine hK0.out _ _ (KS.out _ BL4.out) (fun hHeld => ?_)
            clear hK0 K0
            try simp only [Act.put, List.getElem_toArray, List.getElem_cons_succ, List.getElem_cons_zero, List.setIfInBounds_toArray, List.set_cons_zero, List.set_cons_succ]
            refine wpAnyH_ready (rs := [6]) (by kernel_rfl) (by simp) ?_
            refine AllReadyH.cons (o := _) rfl (fun K0 hK0 => ?_) AllReadyH.nil
            clear hHeld
            have BF := Lib.hid (below_setRow BL4.out GB.out #[.int .i64 q, .slice Aw nw cw])
            have KF := Lib.hid (KS.out _ BF.out)
            rw [if_pos (by rfl)]
            refine wp_store_row 30 _ _ rfl gx _ rfl rfl 30 _ X4.out (by kernel_rfl) rfl (by simp [Value.oneCell']) ?_
            refine hK0.out _ _ KF.out (fun hHeld => ?_)
            clear hK0 K0
            refine wpAnyH_done (by kernel_rfl) ?_ _
            go_wp2_with fail
            go_meet
            exact ⟨_, _, _, _, rfl, setRow_heap _ _ _ _ _ _ X4.out, O4.out.keepAll (fun g e => setRow_other _ _ _ _ (by subst e; exact or_neT X4.out (by decide) O4.out)), ⟨GB.out, by have := (Array.getElem?_eq_some_iff.1 X4.out).1; simp; omega⟩, BF.out⟩
        · go_simp
          obtain ⟨v5, hv⟩ : ∃ v5, v5 = v2.alloc (.cells #[.int .i64 0, .slice none 0 0] 30) := ⟨_, rfl⟩
          obtain ⟨gx, hgx⟩ : ∃ gx, gx = v2.heap.size := ⟨_, rfl⟩
          rw [← hv, ← hgx]
          have X5 := Lib.hid (show v5.heap[gx]? = some (.cells #[.int .i64 0, .slice none 0 0] 30 (0, 0)) by rw [hv, hgx]; exact heap_alloc_new v2 _)
          have hb2 : Below v2.heap.size v2 v5 := by rw [hv]; exact below_new v2 _
          have GB := Lib.hid (show w1.heap.size ≤ gx by rw [hgx]; exact BL2.out.size)
          clear hv hgx
          have BL5 := Lib.hid (BL2.out.trans (hb2.mono BL2.out.size))
          have U5 := Lib.hid (U2.out.below hb2 UZ2.out)
          have UZ5 := Lib.hid (Nat.lt_of_lt_of_le UZ2.out hb2.size)
          clear hb2
          refine hK0.out _ _ (KS.out _ BL5.out) (fun hHeld => ?_)
          clear hK0 K0
          try simp only [Act.put, List.getElem_toArray, List.getElem_cons_succ, List.getElem_cons_zero, List.setIfInBounds_toArray, List.set_cons_zero, List.set_cons_succ]
          refine wpAnyH_ready (rs := [4]) (by kernel_rfl) (by simp) ?_
          refine AllReadyH.cons (o := _) rfl (fun K0 hK0 => ?_) (AllReadyH.nil)
          · go_simp
            refine (SP.out _ _ U5.out).mono ?_
            rintro e9 v6 ⟨Aw, nw, cw, rfl, ho, hb2⟩
            go_wp2_with fail
            have O6 := Lib.hid (OR.mono ho (show w1.heap.size ≤ v5.heap.size from BL5.out.size))
            clear ho
            have BL6 := Lib.hid (BL5.out.trans (hb2.mono BL5.out.size))
            have X6 := Lib.hid ((hb2.block gx (Array.getElem?_eq_some_iff.1 X5.out).1).trans X5.out)
            clear hb2
            refine hK0.out _ _ (KS.out _ BL6.out) (fun hHeld => ?_)
            clear hK0 K0
            try simp only [Act.put, List.getElem_toArray, List.getElem_cons_succ, List.getElem_cons_zero, List.setIfInBounds_toArray, List.set_cons_zero, List.set_cons_succ]
            refine wpAnyH_ready (rs := [6]) (by kernel_rfl) (by simp) ?_
            refine AllReadyH.cons (o := _) rfl (fun K0 hK0 => ?_) AllReadyH.nil
            clear hHeld
            have BF := Lib.hid (below_setRow BL6.out GB.out #[.int .i64 q, .slice Aw nw cw])
            have KF := Lib.hid (KS.out _ BF.out)
            rw [if_pos (by rfl)]
            refine wp_store_row 30 _ _ rfl gx _ rfl rfl 30 _ X6.out (by kernel_rfl) rfl (by simp [Value.oneCell']) ?_
            refine hK0.out _ _ KF.out (fun hHeld => ?_)
            clear hK0 K0
            refine wpAnyH_done (by kernel_rfl) ?_ _
            go_wp2_with fail
            go_meet
            exact ⟨_, _, _, _, rfl, setRow_heap _ _ _ _ _ _ X6.out, O6.out.keepAll (fun g e => setRow_other _ _ _ _ (by subst e; exact or_neT X6.out (by decide) O6.out)), ⟨GB.out, by have := (Array.getElem?_eq_some_iff.1 X6.out).1; simp; omega⟩, BF.out⟩
      · go_simp
        obtain ⟨v7, hv⟩ : ∃ v7, v7 = v1.alloc (.cells #[.int .i64 0, .slice none 0 0] 30) := ⟨_, rfl⟩
        obtain ⟨gx, hgx⟩ : ∃ gx, gx = v1.heap.size := ⟨_, rfl⟩
        rw [← hv, ← hgx]
        have X7 := Lib.hid (show v7.heap[gx]? = some (.cells #[.int .i64 0, .slice none 0 0] 30 (0, 0)) by rw [hv, hgx]; exact heap_alloc_new v1 _)
        have hb2 : Below v1.heap.size v1 v7 := by rw [hv]; exact below_new v1 _
        have GB := Lib.hid (show w1.heap.size ≤ gx by rw [hgx]; exact BL1.out.size)
        clear hv hgx
        have BL7 := Lib.hid (BL1.out.trans (hb2.mono BL1.out.size))
        have U7 := Lib.hid (U1.out.below hb2 UZ1.out)
        have UZ7 := Lib.hid (Nat.lt_of_lt_of_le UZ1.out hb2.size)
        clear hb2
        refine hK0.out _ _ (KS.out _ BL7.out) (fun hHeld => ?_)
        clear hK0 K0
        try simp only [Act.put, List.getElem_toArray, List.getElem_cons_succ, List.getElem_cons_zero, List.setIfInBounds_toArray, List.set_cons_zero, List.set_cons_succ]
        refine wpAnyH_ready (rs := [3]) (by kernel_rfl) (by simp) ?_
        refine AllReadyH.cons (o := _) rfl (fun K0 hK0 => ?_) (AllReadyH.nil)
        · go_simp
          refine (toEntry_any p d _).mono ?_
          rintro e9 v8 ⟨rfl, hb2⟩
          go_wp2_with fail
          have BL8 := Lib.hid (BL7.out.trans (hb2.mono BL7.out.size))
          have X8 := Lib.hid ((hb2.block gx (Array.getElem?_eq_some_iff.1 X7.out).1).trans X7.out)
          have U8 := Lib.hid (U7.out.below hb2 UZ7.out)
          have UZ8 := Lib.hid (Nat.lt_of_lt_of_le UZ7.out hb2.size)
          clear hb2
          refine hK0.out _ _ (KS.out _ BL8.out) (fun hHeld => ?_)
          clear hK0 K0
          try simp only [Act.put, List.getElem_toArray, List.getElem_cons_succ, List.getElem_cons_zero, List.setIfInBounds_toArray, List.set_cons_zero, List.set_cons_succ]
          refine wpAnyH_ready (rs := [4]) (by kernel_rfl) (by simp) ?_
          refine AllReadyH.cons (o := _) rfl (fun K0 hK0 => ?_) (AllReadyH.nil)
          · go_simp
            refine (SP.out _ _ U8.out).mono ?_
            rintro e9 v9 ⟨Aw, nw, cw, rfl, ho, hb2⟩
            go_wp2_with fail
            have O9 := Lib.hid (OR.mono ho (show w1.heap.size ≤ v8.heap.size from BL8.out.size))
            clear ho
            have BL9 := Lib.hid (BL8.out.trans (hb2.mono BL8.out.size))
            have X9 := Lib.hid ((hb2.block gx (Array.getElem?_eq_some_iff.1 X8.out).1).trans X8.out)
            clear hb2
            refine hK0.out _ _ (KS.out _ BL9.out) (fun hHeld => ?_)
            clear hK0 K0
            try simp only [Act.put, List.getElem_toArray, List.getElem_cons_succ, List.getElem_cons_zero, List.setIfInBounds_toArray, List.set_cons_zero, List.set_cons_succ]
            refine wpAnyH_ready (rs := [6]) (by kernel_rfl) (by simp) ?_
            refine AllReadyH.cons (o := _) rfl (fun K0 hK0 => ?_) AllReadyH.nil
            clear hHeld
            have BF := Lib.hid (below_setRow BL9.out GB.out #[.int .i64 q, .slice Aw nw cw])
            have KF := Lib.hid (KS.out _ BF.out)
            rw [if_pos (by rfl)]
            refine wp_store_row 30 _ _ rfl gx _ rfl rfl 30 _ X9.out (by kernel_rfl) rfl (by simp [Value.oneCell']) ?_
            refine hK0.out _ _ KF.out (fun hHeld => ?_)
            clear hK0 K0
            refine wpAnyH_done (by kernel_rfl) ?_ _
            go_wp2_with fail
            go_meet
            exact ⟨_, _, _, _, rfl, setRow_heap _ _ _ _ _ _ X9.out, O9.out.keepAll (fun g e => setRow_other _ _ _ _ (by subst e; exact or_neT X9.out (by decide) O9.out)), ⟨GB.out, by have := (Array.getElem?_eq_some_iff.1 X9.out).1; simp; omega⟩, BF.out⟩
    · go_simp
      obtain ⟨v10, hv⟩ : ∃ v10, v10 = v0.alloc (.cells #[.int .i64 0, .slice none 0 0] 30) := ⟨_, rfl⟩
      obtain ⟨gx, hgx⟩ : ∃ gx, gx = v0.heap.size := ⟨_, rfl⟩
      rw [← hv, ← hgx]
      have X10 := Lib.hid (show v10.heap[gx]? = some (.cells #[.int .i64 0, .slice none 0 0] 30 (0, 0)) by rw [hv, hgx]; exact heap_alloc_new v0 _)
      have hb2 : Below v0.heap.size v0 v10 := by rw [hv]; exact below_new v0 _
      have GB := Lib.hid (show w1.heap.size ≤ gx by rw [hgx]; exact BL0.out.size)
      clear hv hgx
      have BL10 := Lib.hid (BL0.out.trans (hb2.mono BL0.out.size))
      clear hb2
      refine hK0.out _ _ (KS.out _ BL10.out) (fun hHeld => ?_)
      clear hK0 K0
      try simp only [Act.put, List.getElem_toArray, List.getElem_cons_succ, List.getElem_cons_zero, List.setIfInBounds_toArray, List.set_cons_zero, List.set_cons_succ]
      refine wpAnyH_ready (rs := [1]) (by kernel_rfl) (by simp) ?_
      refine AllReadyH.cons (o := _) rfl (fun K0 hK0 => ?_) (AllReadyH.nil)
      · go_simp
        refine (TK.out _ BL10.out H20.out).mono ?_
        rintro e9 v11 ⟨rfl, hm, hb2, hs2⟩
        go_wp2_with fail
        have U11 := Lib.hid hm
        have UZ11 := Lib.hid hs2
        clear hm hs2
        have BL11 := Lib.hid (BL10.out.trans (hb2.mono BL10.out.size))
        have X11 := Lib.hid ((hb2.block gx (Array.getElem?_eq_some_iff.1 X10.out).1).trans X10.out)
        clear hb2
        refine hK0.out _ _ (KS.out _ BL11.out) (fun hHeld => ?_)
        clear hK0 K0
        try simp only [Act.put, List.getElem_toArray, List.getElem_cons_succ, List.getElem_cons_zero, List.setIfInBounds_toArray, List.set_cons_zero, List.set_cons_succ]
        refine wpAnyH_ready (rs := [3]) (by kernel_rfl) (by simp) ?_
        refine AllReadyH.cons (o := _) rfl (fun K0 hK0 => ?_) (AllReadyH.nil)
        · go_simp
          refine (toEntry_any p d _).mono ?_
          rintro e9 v12 ⟨rfl, hb2⟩
          go_wp2_with fail
          have BL12 := Lib.hid (BL11.out.trans (hb2.mono BL11.out.size))
          have X12 := Lib.hid ((hb2.block gx (Array.getElem?_eq_some_iff.1 X11.out).1).trans X11.out)
          have U12 := Lib.hid (U11.out.below hb2 UZ11.out)
          have UZ12 := Lib.hid (Nat.lt_of_lt_of_le UZ11.out hb2.size)
          clear hb2
          refine hK0.out _ _ (KS.out _ BL12.out) (fun hHeld => ?_)
          clear hK0 K0
          try simp only [Act.put, List.getElem_toArray, List.getElem_cons_succ, List.getElem_cons_zero, List.setIfInBounds_toArray, List.set_cons_zero, List.set_cons_succ]
          refine wpAnyH_ready (rs := [4]) (by kernel_rfl) (by simp) ?_
          refine AllReadyH.cons (o := _) rfl (fun K0 hK0 => ?_) (AllReadyH.nil)
          · go_simp
            refine (SP.out _ _ U12.out).mono ?_
            rintro e9 v13 ⟨Aw, nw, cw, rfl, ho, hb2⟩
            go_wp2_with fail
            have O13 := Lib.hid (OR.mono ho (show w1.heap.size ≤ v12.heap.size from BL12.out.size))
            clear ho
            have BL13 := Lib.hid (BL12.out.trans (hb2.mono BL12.out.size))
            have X13 := Lib.hid ((hb2.block gx (Array.getElem?_eq_some_iff.1 X12.out).1).trans X12.out)
            clear hb2
            refine hK0.out _ _ (KS.out _ BL13.out) (fun hHeld => ?_)
            clear hK0 K0
            try simp only [Act.put, List.getElem_toArray, List.getElem_cons_succ, List.getElem_cons_zero, List.setIfInBounds_toArray, List.set_cons_zero, List.set_cons_succ]
            refine wpAnyH_ready (rs := [6]) (by kernel_rfl) (by simp) ?_
            refine AllReadyH.cons (o := _) rfl (fun K0 hK0 => ?_) AllReadyH.nil
            clear hHeld
            have BF := Lib.hid (below_setRow BL13.out GB.out #[.int .i64 q, .slice Aw nw cw])
            have KF := Lib.hid (KS.out _ BF.out)
            rw [if_pos (by rfl)]
            refine wp_store_row 30 _ _ rfl gx _ rfl rfl 30 _ X13.out (by kernel_rfl) rfl (by simp [Value.oneCell']) ?_
            refine hK0.out _ _ KF.out (fun hHeld => ?_)
            clear hK0 K0
            refine wpAnyH_done (by kernel_rfl) ?_ _
            go_wp2_with fail
            go_meet
            exact ⟨_, _, _, _, rfl, setRow_heap _ _ _ _ _ _ X13.out, O13.out.keepAll (fun g e => setRow_other _ _ _ _ (by subst e; exact or_neT X13.out (by decide) O13.out)), ⟨GB.out, by have := (Array.getElem?_eq_some_iff.1 X13.out).1; simp; omega⟩, BF.out⟩
  case rest =>
  obtain ⟨b6, Aa, na, ca, rfl, xa, oa, za, hb⟩ := hcut
  obtain ⟨w5, hw5⟩ : ∃ w5, w5 = wc := ⟨_, rfl⟩
  rw [← hw5] at xa oa za hb ⊢
  have HW5 := Lib.hid hw5
  clear hw5
  have XA := Lib.hid xa; have OA := Lib.hid oa; have ZA := Lib.hid za; have R5 := Lib.hid hb
  clear xa oa za hb SP
  go_wp2_with fail
  refine (TK.out _ R5.out H20.out).mono ?_
  rintro e9 w6 ⟨rfl, hm, hb, hs6⟩
  obtain ⟨u, hu⟩ : ∃ u, u = w5.heap.size := ⟨_, rfl⟩
  rw [← hu] at hm hs6 ⊢
  have M6 := Lib.hid hm
  have XA6 := Lib.hid ((hb.block b6 ZA.out.2).trans XA.out)
  have OA6 := Lib.hid (OA.out.below hb (Nat.le_refl _))
  have LA := Lib.hid (show ∀ g, Aa = some ⟨g, 0, none⟩ → g < u from fun g e => by rw [hu]; have := OA.out; subst e; exact (OR.lt this).2)
  have Z6 := Lib.hid (show b6 < u ∧ u < w6.heap.size ∧ w1.heap.size ≤ b6 ∧ w1.heap.size ≤ u by have := ZA.out; have := R5.out.size; omega)
  have R6 := Lib.hid (R5.out.trans (hb.mono R5.out.size))
  clear hm hb hs6 hu XA OA ZA R5
  obtain ⟨q0, q1⟩ := QE.out w6 R6.out
  go_wp2_with fail
  refine (toEntry_any p d _).mono ?_
  rintro e9 w6' ⟨rfl, hb⟩
  have M6' := Lib.hid (M6.out.below hb Z6.out.2.1)
  have hs67 := hb.size
  go_wp2_with fail
  refine (IP.out _ _ M6'.out).mono ?_
  rintro e9 w7 ⟨Ab, nb, cb, rfl, ho, hb7⟩
  have ho : OR 26 2 w7 w6.heap.size Ab nb cb H := OR.mono ho hs67
  have hb := hb.trans (hb7.mono hs67)
  clear hb7 hs67 M6'
  obtain ⟨w8, hw8⟩ : ∃ w8, w8 = w7.alloc (.cells #[.int .i64 q, .slice Ab nb cb] 30) := ⟨_, rfl⟩
  obtain ⟨b8, hb8⟩ : ∃ b8, b8 = w7.heap.size := ⟨_, rfl⟩
  have hb78 : Below w7.heap.size w7 w8 := by rw [hw8]; exact below_new w7 _
  have hb68 : Below w6.heap.size w6 w8 := hb.trans (hb78.mono hb.size)
  have XB := Lib.hid (show w8.heap[b8]? = some (.cells #[.int .i64 q, .slice Ab nb cb] 30 (0, 0)) by rw [hw8, hb8]; exact heap_alloc_new w7 _)
  have lb := OR.len ho; have la := OA6.out.len
  obtain rfl : na = nb := by omega
  obtain ⟨gb, hgb, hmb⟩ : ∃ gb, ((na = 0 ∧ gb = u) ∨ (w6.heap.size ≤ gb ∧ gb < b8)) ∧ Mine w8 gb (gb + 1) 26 Ab (na * 2) (fun k => .int .i64 (gi H k)) := by
    rcases Nat.eq_zero_or_pos na with rfl | h0
    · exact ⟨u, .inl ⟨rfl, rfl⟩, .inl rfl⟩
    · obtain ⟨g, rfl, h1, h2⟩ := OR.pos ho h0
      exact ⟨g, .inr ⟨h1, by omega⟩, .inr ⟨g, 0, rfl, Nat.le_refl _, Nat.lt_succ_self _, (OR.below ho hb78 (Nat.le_refl _)).row⟩⟩
  have MB := Lib.hid hmb
  have ZB := Lib.hid (show ((na = 0 ∧ gb = u) ∨ (w6.heap.size ≤ gb ∧ gb < b8)) ∧ b8 < w8.heap.size ∧ w6.heap.size ≤ b8 from ⟨hgb, by rw [hw8, hb8]; simp, by rw [hb8]; exact hb.size⟩)
  have NS := Lib.hid (show na ≤ 12 by obtain ⟨j, h1, h2⟩ := SD.out; omega)
  have XA8 := Lib.hid ((hb68.block b6 (by have := Z6.out; omega)).trans XA6.out)
  have OA8 := Lib.hid (OA6.out.below hb68 (Nat.le_refl _))
  have M8 := Lib.hid (M6.out.below hb68 Z6.out.2.1)
  have R8 := Lib.hid (R6.out.trans (hb68.mono R6.out.size))
  have HW8 := Lib.hid hw8; have HB8 := Lib.hid hb8
  clear hw8 hb8 ho hb hb78 hb68 hmb hgb lb la M6 XA6 OA6 R6 q0 q1
  have UP : Hid (∀ W, Kept [u, gb] w8 W → Below w1.heap.size w1 W) := fun W hW => R8.out.trans (hW.below R8.out.size (fun b hb => by have := Z6.out; have := ZB.out; simp at hb; omega))
  have QA : Hid (∀ W, Kept [u, gb] w8 W → (W.cell? ⟨b8, 0, none⟩ = some (.int .i64 q) ∧ W.cell? ⟨b8, 1, none⟩ = some (.slice Ab na cb)) ∧ (W.cell? ⟨b6, 0, none⟩ = some (.int .i64 q) ∧ W.cell? ⟨b6, 1, none⟩ = some (.slice Aa na ca)) ∧ (W.cell? ⟨w.heap.size, 0, none⟩ = some (.int .i64 p) ∧ W.cell? ⟨w.heap.size, 1, none⟩ = some (.int .i64 d)) ∧ OR 26 2 W w1.heap.size Aa na ca H) := fun W hW => by
    have z6 := Z6.out; have zb := ZB.out
    have j8 := (hW.2 b8 (by omega) (by simp; omega)).trans XB.out
    have j6 := (hW.2 b6 (by omega) (by simp; omega)).trans XA8.out
    exact ⟨⟨cell_of_row W _ 0 _ _ _ j8, cell_of_row W _ 1 _ _ _ j8⟩, ⟨cell_of_row W _ 0 _ _ _ j6, cell_of_row W _ 1 _ _ _ j6⟩, QE.out W (UP.out W hW), OA8.out.kept hW (fun g e => by have := LA.out g e; simp; omega)⟩
  obtain ⟨⟨x0, x1⟩, ⟨y0, y1⟩, ⟨q0, q1⟩, oA⟩ := QA.out w8 (Kept.refl _ _)
  clear XA8 OA8 XB
  go_upto_region 8 with (fail)
  rw [← HW8.out, ← HB8.out]
  clear HW8 HB8
  have ZM := Lib.hid (show u < w8.heap.size ∧ gb < w8.heap.size by have := Z6.out; have := ZB.out; omega)
  go_wp2_with fail
  refine (eqHeapR_own gb (gb + 1) w1.heap.size w8.heap.size Ab Aa na cb ca q H w8 (by have := NS.out; omega) MB.out.sl oA.sl0).mono ?_
  rintro e9 w9 ⟨rfl, hb⟩
  have K9 := Lib.hid (Kept.of_below hb [u, gb])
  have MB9 := Lib.hid (MB.out.below hb ZM.out.2)
  have M9 := Lib.hid (M8.out.below hb ZM.out.1)
  have S9 := Lib.hid hb.size
  clear hb MB M8
  clear x0 y0 x1 y1 q0 q1 oA
  go_wp2_with fail
  refine (TK.out _ (UP.out _ K9.out) H20.out).mono ?_
  rintro e9 w10 ⟨rfl, hm, hb, _⟩
  have K10 := Lib.hid (K9.out.then_below hb)
  have MB10 := Lib.hid (MB9.out.below hb (by have := ZM.out; have := S9.out; omega))
  have M10 := Lib.hid (M9.out.below hb (by have := ZM.out; have := S9.out; omega))
  have N10 := Lib.hid hm
  have S10 := Lib.hid (Nat.le_trans S9.out hb.size)
  clear hb hm MB9 M9 K9 S9
  go_wp2_with fail
  refine (eqEntryS_same _ _ _ _ _ _ n _ _ (gi xs) _ (by have := H20.out; omega) M10.out.sl N10.out.sl).mono ?_
  rintro e9 w11 ⟨rfl, hb⟩
  have K11 := Lib.hid (K10.out.then_below hb)
  have MB11 := Lib.hid (MB10.out.below hb (by have := ZM.out; have := S10.out; omega))
  have M11 := Lib.hid (M10.out.below hb (by have := ZM.out; have := S10.out; omega))
  have S11 := Lib.hid (Nat.le_trans S10.out hb.size)
  clear hb MB10 M10 N10 K10 S10
  go_wp2_with fail
  refine (markEntryS_any u (u + 1) _ n n _ 1 w11 (by have := H20.out; omega) (by omega) (fun k _ => ⟨_, rfl⟩) M11.out).mono ?_
  rintro e9 w12 ⟨rfl, _, ho⟩
  have hk12 := Kept.of_only4 ho
  have K12 := Lib.hid (K11.out.trans (hk12.mono (gs' := [u, gb]) (fun b hb _ => by simp at hb; subst hb; simp)))
  have MB12 : Hid (Mine w12 gb (gb + 1) 26 Ab (na * 2) (fun k => .int .i64 (gi H k))) := by
    rcases ZB.out.1 with ⟨h0, _⟩ | h
    · exact .inl (by omega)
    · exact MB11.out.kept hk12 (by have := Z6.out; simp; omega)
  have S12 := Lib.hid (Nat.le_trans S11.out hk12.1.size)
  obtain ⟨tk, htk⟩ : ∃ tk : Nat, tk = 1 + n * 2 := ⟨_, rfl⟩
  rw [← htk]
  have t0 : ((tk : Int) < 0) = False := by simp
  clear htk ho hk12 M11 MB11 K11 S11
  obtain ⟨⟨x0, x1⟩, ⟨y0, y1⟩, ⟨q0, q1⟩, oA⟩ := QA.out w12 K12.out
  go_wp2_with fail
  refine (eqHeapR_own gb (gb + 1) w1.heap.size w12.heap.size Ab Aa na cb ca q H w12 (by have := NS.out; omega) MB12.out.sl oA.sl0).mono ?_
  rintro e9 w13 ⟨rfl, hb⟩
  have K13 := Lib.hid (K12.out.then_below hb)
  have MB13 := Lib.hid (MB12.out.below hb (by have := ZM.out; have := S12.out; omega))
  have S13 := Lib.hid (Nat.le_trans S12.out hb.size)
  clear hb MB12 K12 S12 t0
  clear x0 y0 x1 y1 q0 q1 oA
  obtain ⟨⟨x0, x1⟩, ⟨y0, y1⟩, ⟨q0, q1⟩, oA⟩ := QA.out w13 K13.out
  go_wp2_with fail
  refine (markHeapR_own gb Ab na cb q H w13 (by have := NS.out; omega) MB13.out (by have := ZM.out; have := S13.out; omega)).mono ?_
  rintro e9 w14 ⟨rfl, hm, hk⟩
  have K14 := Lib.hid (K13.out.trans (hk.mono (gs' := [u, gb]) (fun b hb _ => by simp at hb; subst hb; simp)))
  have MK := Lib.hid hm
  have S14 := Lib.hid (Nat.le_trans S13.out hk.1.size)
  obtain ⟨tot, ht⟩ : ∃ tot : Nat, tot = 1 + na * 2 := ⟨_, rfl⟩
  rw [← ht]
  have HE : Hid (∀ W, Below w14.heap.size w14 W → Calls Try.prog 35 #[.agg #[.int .i64 q, .slice Ab na cb], .int .i64 1] W fun e w' => e = .returned (.int .i64 (tot : Int)) ∧ Below w14.heap.size w14 w') := fun W hW => by
    have := heldHeapR_own gb Ab na cb q W (by have := NS.out; omega) (MK.out.below hW (by have := ZM.out; have := S14.out; omega)) (by have := ZM.out; have := S14.out; have := hW.size; omega)
    rw [← ht] at this
    exact this.mono fun e w' hh => ⟨hh.1, hW.trans (hh.2.mono hW.size)⟩
  have t1 : ((tot : Int) < 0) = False := by simp
  have t2 : ((tot : Int) != (tot : Int)) = false := by simp
  clear ht hm hk MB13 K13 S13
  clear x0 y0 x1 y1 q0 q1 oA
  obtain ⟨⟨x0, x1⟩, ⟨y0, y1⟩, ⟨q0, q1⟩, oA⟩ := QA.out w14 K14.out
  go_wp2_with fail
  refine (HE.out _ (Below.refl _ _)).mono ?_
  rintro e9 w15 ⟨rfl, hb⟩
  have H15 := Lib.hid hb
  have K15 := Lib.hid (K14.out.then_below hb)
  clear hb
  clear x0 y0 x1 y1 q0 q1 oA
  obtain ⟨⟨x0, x1⟩, ⟨y0, y1⟩, ⟨q0, q1⟩, oA⟩ := QA.out w15 K15.out
  clear x0 y0 x1 y1 oA
  have TK : Hid (∀ W, Below w15.heap.size w15 W → n ≤ 1048576 → Calls Try.prog 30 #[.slice A n c] W fun e w' => e = .returned (.slice (some ⟨W.heap.size, 0, none⟩) n n) ∧ Mine w' W.heap.size (W.heap.size + 1) 26 (some ⟨W.heap.size, 0, none⟩) (n * 2) (fun k => .int .i64 (gi xs k)) ∧ Below W.heap.size W w' ∧ W.heap.size < w'.heap.size) := fun W hW => TK.out W (UP.out W (K15.out.then_below hW))
  have KS : Hid (∀ W, Below w15.heap.size w15 W → (W.cell? ⟨w.heap.size, 0, none⟩ = some (.int .i64 p) ∧ W.cell? ⟨w.heap.size, 1, none⟩ = some (.int .i64 d))) := fun W hW => QE.out W (UP.out W (K15.out.then_below hW))
  go_upto_region 24 with (fail)
  go_cut [12] from 13 (fun x wx => ∃ gx Aw nw cw, x = .pointer (some ⟨gx, 0, none⟩) ∧ wx.heap[gx]? = some (.cells #[.int .i64 q, .slice Aw nw cw] 30 (0, 0)) ∧ OR 26 2 wx w15.heap.size Aw nw cw H ∧ (w15.heap.size ≤ gx ∧ gx < wx.heap.size) ∧ Below w15.heap.size w15 wx)
  case first => as_aux_lemma =>
    refine wp_region_held_drew (S := fun W => (W.cell? ⟨w.heap.size, 0, none⟩ = some (.int .i64 p) ∧ W.cell? ⟨w.heap.size, 1, none⟩ = some (.int .i64 d))) (by kernel_rfl) (KS.out _ (Below.drew (Below.refl _ _))) (fun hHeld => ?_)
    obtain ⟨v0, hv0⟩ : ∃ v0, v0 = w15.drew := ⟨_, rfl⟩
    have BL0 : Hid (Below w15.heap.size w15 v0) := by rw [hv0]; exact Below.drew (Below.refl _ _)
    rw [← hv0] at hHeld ⊢
    clear hv0
    refine wpAnyH_take (i := 0) (oi := _) (v := ?_) rfl (by kernel_rfl) (by kernel_rfl) (by kernel_rfl) (fun _ _ _ h => h) (Or.inl ⟨by rfl, ?_⟩) hHeld ?_
    rotate_left
    · (intro w hSw; (try dsimp only at hSw); go_simp; try with_reducible rfl)
    try simp only [Act.put, List.getElem_toArray, List.getElem_cons_succ, List.getElem_cons_zero, List.setIfInBounds_toArray, List.set_cons_zero, List.set_cons_succ]
    refine wpAnyH_take (i := 2) (oi := _) (v := ?_) rfl (by kernel_rfl) (by kernel_rfl) (by kernel_rfl) (fun _ _ _ h => h) (Or.inl ⟨by rfl, ?_⟩) hHeld ?_
    rotate_left
    · (intro w hSw; (try dsimp only at hSw); go_simp; try with_reducible rfl)
    try simp only [Act.put, List.getElem_toArray, List.getElem_cons_succ, List.getElem_cons_zero, List.setIfInBounds_toArray, List.set_cons_zero, List.set_cons_succ]
    refine wpAnyH_ready (rs := [1, 5]) (by kernel_rfl) (by simp) ?_
    refine AllReadyH.cons (o := _) rfl (fun K0 hK0 => ?_) (AllReadyH.cons (o := _) rfl (fun K0 hK0 => ?_) (AllReadyH.nil))
    · go_simp
      refine (TK.out _ BL0.out H20.out).mono ?_
      rintro e9 v1 ⟨rfl, hm, hb2, hs2⟩
      go_wp2_with fail
      have U1 := Lib.hid hm
      have UZ1 := Lib.hid hs2
      clear hm hs2
      have BL1 := Lib.hid (BL0.out.trans (hb2.mono BL0.out.size))
      clear hb2
      refine hK0.out _ _ (KS.out _ BL1.out) (fun hHeld => ?_)
      clear hK0 K0
      try simp only [Act.put, List.getElem_toArray, List.getElem_cons_succ, List.getElem_cons_zero, List.setIfInBounds_toArray, List.set_cons_zero, List.set_cons_succ]
      refine wpAnyH_ready (rs := [3, 5]) (by kernel_rfl) (by simp) ?_
      refine AllReadyH.cons (o := _) rfl (fun K0 hK0 => ?_) (AllReadyH.cons (o := _) rfl (fun K0 hK0 => ?_) (AllReadyH.nil))
      · go_simp
        refine (toEntry_any p d _).mono ?_
        rintro e9 v2 ⟨rfl, hb2⟩
        go_wp2_with fail
        have BL2 := Lib.hid (BL1.out.trans (hb2.mono BL1.out.size))
        have U2 := Lib.hid (U1.out.below hb2 UZ1.out)
        have UZ2 := Lib.hid (Nat.lt_of_lt_of_le UZ1.out hb2.size)
        clear hb2
        refine hK0.out _ _ (KS.out _ BL2.out) (fun hHeld => ?_)
        clear hK0 K0
        try simp only [Act.put, List.getElem_toArray, List.getElem_cons_succ, List.getElem_cons_zero, List.setIfInBounds_toArray, List.set_cons_zero, List.set_cons_succ]
        refine wpAnyH_ready (rs := [4, 5]) (by kernel_rfl) (by simp) ?_
        refine AllReadyH.cons (o := _) rfl (fun K0 hK0 => ?_) (AllReadyH.cons (o := _) rfl (fun K0 hK0 => ?_) (AllReadyH.nil))
        · go_simp
          refine (IP.out _ _ U2.out).mono ?_
          rintro e9 v3 ⟨Aw, nw, cw, rfl, ho, hb2⟩
          go_wp2_with fail
          have O3 := Lib.hid (OR.mono ho (show w15.heap.size ≤ v2.heap.size from BL2.out.size))
          clear ho
          have BL3 := Lib.hid (BL2.out.trans (hb2.mono BL2.out.size))
          clear hb2
          refine hK0.out _ _ (KS.out _ BL3.out) (fun hHeld => ?_)
          clear hK0 K0
          try simp only [Act.put, List.getElem_toArray, List.getElem_cons_succ, List.getElem_cons_zero, List.setIfInBounds_toArray, List.set_cons_zero, List.set_cons_succ]
          refine wpAnyH_ready (rs := [5]) (by kernel_rfl) (by simp) ?_
          refine AllReadyH.cons (o := _) rfl (fun K0 hK0 => ?_) (AllReadyH.nil)
          · go_simp
            obtain ⟨v4, hv⟩ : ∃ v4, v4 = v3.alloc (.cells #[.int .i64 0, .slice none 0 0] 30) := ⟨_, rfl⟩
            obtain ⟨gx, hgx⟩ : ∃ gx, gx = v3.heap.size := ⟨_, rfl⟩
            rw [← hv, ← hgx]
            have X4 := Lib.hid (show v4.heap[gx]? = some (.cells #[.int .i64 0, .slice none 0 0] 30 (0, 0)) by rw [hv, hgx]; exact heap_alloc_new v3 _)
            have hb2 : Below v3.heap.size v3 v4 := by rw [hv]; exact below_new v3 _
            have GB := Lib.hid (show w15.heap.size ≤ gx by rw [hgx]; exact BL3.out.size)
            clear hv hgx
            have BL4 := Lib.hid (BL3.out.trans (hb2.mono BL3.out.size))
            have O4 := Lib.hid (O3.out.below hb2 (Nat.le_refl _))
            clear hb2
            refine hK0.out _ _ (KS.out _ BL4.out) (fun hHeld => ?_)
            clear hK0 K0
            try simp only [Act.put, List.getElem_toArray, List.getElem_cons_succ, List.getElem_cons_zero, List.setIfInBounds_toArray, List.set_cons_zero, List.set_cons_succ]
            refine wpAnyH_ready (rs := [6]) (by kernel_rfl) (by simp) ?_
            refine AllReadyH.cons (o := _) rfl (fun K0 hK0 => ?_) AllReadyH.nil
            clear hHeld
            have BF := Lib.hid (below_setRow BL4.out GB.out #[.int .i64 q, .slice Aw nw cw])
            have KF := Lib.hid (KS.out _ BF.out)
            rw [if_pos (by rfl)]
            refine wp_store_row 30 _ _ rfl gx _ rfl rfl 30 _ X4.out (by kernel_rfl) rfl (by simp [Value.oneCell']) ?_
            refine hK0.out _ _ KF.out (fun hHeld => ?_)
            clear hK0 K0
            refine wpAnyH_done (by kernel_rfl) ?_ _
            go_wp2_with fail
            go_meet
            exact ⟨_, _, _, _, rfl, setRow_heap _ _ _ _ _ _ X4.out, O4.out.keepAll (fun g e => setRow_other _ _ _ _ (by subst e; exact or_neT X4.out (by decide) O4.out)), ⟨GB.out, by have := (Array.getElem?_eq_some_iff.1 X4.out).1; simp; omega⟩, BF.out⟩
        · go_simp
          obtain ⟨v5, hv⟩ : ∃ v5, v5 = v2.alloc (.cells #[.int .i64 0, .slice none 0 0] 30) := ⟨_, rfl⟩
          obtain ⟨gx, hgx⟩ : ∃ gx, gx = v2.heap.size := ⟨_, rfl⟩
          rw [← hv, ← hgx]
          have X5 := Lib.hid (show v5.heap[gx]? = some (.cells #[.int .i64 0, .slice none 0 0] 30 (0, 0)) by rw [hv, hgx]; exact heap_alloc_new v2 _)
          have hb2 : Below v2.heap.size v2 v5 := by rw [hv]; exact below_new v2 _
          have GB := Lib.hid (show w15.heap.size ≤ gx by rw [hgx]; exact BL2.out.size)
          clear hv hgx
          have BL5 := Lib.hid (BL2.out.trans (hb2.mono BL2.out.size))
          have U5 := Lib.hid (U2.out.below hb2 UZ2.out)
          have UZ5 := Lib.hid (Nat.lt_of_lt_of_le UZ2.out hb2.size)
          clear hb2
          refine hK0.out _ _ (KS.out _ BL5.out) (fun hHeld => ?_)
          clear hK0 K0
          try simp only [Act.put, List.getElem_toArray, List.getElem_cons_succ, List.getElem_cons_zero, List.setIfInBounds_toArray, List.set_cons_zero, List.set_cons_succ]
          refine wpAnyH_ready (rs := [4]) (by kernel_rfl) (by simp) ?_
          refine AllReadyH.cons (o := _) rfl (fun K0 hK0 => ?_) (AllReadyH.nil)
          · go_simp
            refine (IP.out _ _ U5.out).mono ?_
            rintro e9 v6 ⟨Aw, nw, cw, rfl, ho, hb2⟩
            go_wp2_with fail
            have O6 := Lib.hid (OR.mono ho (show w15.heap.size ≤ v5.heap.size from BL5.out.size))
            clear ho
            have BL6 := Lib.hid (BL5.out.trans (hb2.mono BL5.out.size))
            have X6 := Lib.hid ((hb2.block gx (Array.getElem?_eq_some_iff.1 X5.out).1).trans X5.out)
            clear hb2
            refine hK0.out _ _ (KS.out _ BL6.out) (fun hHeld => ?_)
            clear hK0 K0
            try simp only [Act.put, List.getElem_toArray, List.getElem_cons_succ, List.getElem_cons_zero, List.setIfInBounds_toArray, List.set_cons_zero, List.set_cons_succ]
            refine wpAnyH_ready (rs := [6]) (by kernel_rfl) (by simp) ?_
            refine AllReadyH.cons (o := _) rfl (fun K0 hK0 => ?_) AllReadyH.nil
            clear hHeld
            have BF := Lib.hid (below_setRow BL6.out GB.out #[.int .i64 q, .slice Aw nw cw])
            have KF := Lib.hid (KS.out _ BF.out)
            rw [if_pos (by rfl)]
            refine wp_store_row 30 _ _ rfl gx _ rfl rfl 30 _ X6.out (by kernel_rfl) rfl (by simp [Value.oneCell']) ?_
            refine hK0.out _ _ KF.out (fun hHeld => ?_)
            clear hK0 K0
            refine wpAnyH_done (by kernel_rfl) ?_ _
            go_wp2_with fail
            go_meet
            exact ⟨_, _, _, _, rfl, setRow_heap _ _ _ _ _ _ X6.out, O6.out.keepAll (fun g e => setRow_other _ _ _ _ (by subst e; exact or_neT X6.out (by decide) O6.out)), ⟨GB.out, by have := (Array.getElem?_eq_some_iff.1 X6.out).1; simp; omega⟩, BF.out⟩
      · go_simp
        obtain ⟨v7, hv⟩ : ∃ v7, v7 = v1.alloc (.cells #[.int .i64 0, .slice none 0 0] 30) := ⟨_, rfl⟩
        obtain ⟨gx, hgx⟩ : ∃ gx, gx = v1.heap.size := ⟨_, rfl⟩
        rw [← hv, ← hgx]
        have X7 := Lib.hid (show v7.heap[gx]? = some (.cells #[.int .i64 0, .slice none 0 0] 30 (0, 0)) by rw [hv, hgx]; exact heap_alloc_new v1 _)
        have hb2 : Below v1.heap.size v1 v7 := by rw [hv]; exact below_new v1 _
        have GB := Lib.hid (show w15.heap.size ≤ gx by rw [hgx]; exact BL1.out.size)
        clear hv hgx
        have BL7 := Lib.hid (BL1.out.trans (hb2.mono BL1.out.size))
        have U7 := Lib.hid (U1.out.below hb2 UZ1.out)
        have UZ7 := Lib.hid (Nat.lt_of_lt_of_le UZ1.out hb2.size)
        clear hb2
        refine hK0.out _ _ (KS.out _ BL7.out) (fun hHeld => ?_)
        clear hK0 K0
        try simp only [Act.put, List.getElem_toArray, List.getElem_cons_succ, List.getElem_cons_zero, List.setIfInBounds_toArray, List.set_cons_zero, List.set_cons_succ]
        refine wpAnyH_ready (rs := [3]) (by kernel_rfl) (by simp) ?_
        refine AllReadyH.cons (o := _) rfl (fun K0 hK0 => ?_) (AllReadyH.nil)
        · go_simp
          refine (toEntry_any p d _).mono ?_
          rintro e9 v8 ⟨rfl, hb2⟩
          go_wp2_with fail
          have BL8 := Lib.hid (BL7.out.trans (hb2.mono BL7.out.size))
          have X8 := Lib.hid ((hb2.block gx (Array.getElem?_eq_some_iff.1 X7.out).1).trans X7.out)
          have U8 := Lib.hid (U7.out.below hb2 UZ7.out)
          have UZ8 := Lib.hid (Nat.lt_of_lt_of_le UZ7.out hb2.size)
          clear hb2
          refine hK0.out _ _ (KS.out _ BL8.out) (fun hHeld => ?_)
          clear hK0 K0
          try simp only [Act.put, List.getElem_toArray, List.getElem_cons_succ, List.getElem_cons_zero, List.setIfInBounds_toArray, List.set_cons_zero, List.set_cons_succ]
          refine wpAnyH_ready (rs := [4]) (by kernel_rfl) (by simp) ?_
          refine AllReadyH.cons (o := _) rfl (fun K0 hK0 => ?_) (AllReadyH.nil)
          · go_simp
            refine (IP.out _ _ U8.out).mono ?_
            rintro e9 v9 ⟨Aw, nw, cw, rfl, ho, hb2⟩
            go_wp2_with fail
            have O9 := Lib.hid (OR.mono ho (show w15.heap.size ≤ v8.heap.size from BL8.out.size))
            clear ho
            have BL9 := Lib.hid (BL8.out.trans (hb2.mono BL8.out.size))
            have X9 := Lib.hid ((hb2.block gx (Array.getElem?_eq_some_iff.1 X8.out).1).trans X8.out)
            clear hb2
            refine hK0.out _ _ (KS.out _ BL9.out) (fun hHeld => ?_)
            clear hK0 K0
            try simp only [Act.put, List.getElem_toArray, List.getElem_cons_succ, List.getElem_cons_zero, List.setIfInBounds_toArray, List.set_cons_zero, List.set_cons_succ]
            refine wpAnyH_ready (rs := [6]) (by kernel_rfl) (by simp) ?_
            refine AllReadyH.cons (o := _) rfl (fun K0 hK0 => ?_) AllReadyH.nil
            clear hHeld
            have BF := Lib.hid (below_setRow BL9.out GB.out #[.int .i64 q, .slice Aw nw cw])
            have KF := Lib.hid (KS.out _ BF.out)
            rw [if_pos (by rfl)]
            refine wp_store_row 30 _ _ rfl gx _ rfl rfl 30 _ X9.out (by kernel_rfl) rfl (by simp [Value.oneCell']) ?_
            refine hK0.out _ _ KF.out (fun hHeld => ?_)
            clear hK0 K0
            refine wpAnyH_done (by kernel_rfl) ?_ _
            go_wp2_with fail
            go_meet
            exact ⟨_, _, _, _, rfl, setRow_heap _ _ _ _ _ _ X9.out, O9.out.keepAll (fun g e => setRow_other _ _ _ _ (by subst e; exact or_neT X9.out (by decide) O9.out)), ⟨GB.out, by have := (Array.getElem?_eq_some_iff.1 X9.out).1; simp; omega⟩, BF.out⟩
    · go_simp
      obtain ⟨v10, hv⟩ : ∃ v10, v10 = v0.alloc (.cells #[.int .i64 0, .slice none 0 0] 30) := ⟨_, rfl⟩
      obtain ⟨gx, hgx⟩ : ∃ gx, gx = v0.heap.size := ⟨_, rfl⟩
      rw [← hv, ← hgx]
      have X10 := Lib.hid (show v10.heap[gx]? = some (.cells #[.int .i64 0, .slice none 0 0] 30 (0, 0)) by rw [hv, hgx]; exact heap_alloc_new v0 _)
      have hb2 : Below v0.heap.size v0 v10 := by rw [hv]; exact below_new v0 _
      have GB := Lib.hid (show w15.heap.size ≤ gx by rw [hgx]; exact BL0.out.size)
      clear hv hgx
      have BL10 := Lib.hid (BL0.out.trans (hb2.mono BL0.out.size))
      clear hb2
      refine hK0.out _ _ (KS.out _ BL10.out) (fun hHeld => ?_)
      clear hK0 K0
      try simp only [Act.put, List.getElem_toArray, List.getElem_cons_succ, List.getElem_cons_zero, List.setIfInBounds_toArray, List.set_cons_zero, List.set_cons_succ]
      refine wpAnyH_ready (rs := [1]) (by kernel_rfl) (by simp) ?_
      refine AllReadyH.cons (o := _) rfl (fun K0 hK0 => ?_) (AllReadyH.nil)
      · go_simp
        refine (TK.out _ BL10.out H20.out).mono ?_
        rintro e9 v11 ⟨rfl, hm, hb2, hs2⟩
        go_wp2_with fail
        have U11 := Lib.hid hm
        have UZ11 := Lib.hid hs2
        clear hm hs2
        have BL11 := Lib.hid (BL10.out.trans (hb2.mono BL10.out.size))
        have X11 := Lib.hid ((hb2.block gx (Array.getElem?_eq_some_iff.1 X10.out).1).trans X10.out)
        clear hb2
        refine hK0.out _ _ (KS.out _ BL11.out) (fun hHeld => ?_)
        clear hK0 K0
        try simp only [Act.put, List.getElem_toArray, List.getElem_cons_succ, List.getElem_cons_zero, List.setIfInBounds_toArray, List.set_cons_zero, List.set_cons_succ]
        refine wpAnyH_ready (rs := [3]) (by kernel_rfl) (by simp) ?_
        refine AllReadyH.cons (o := _) rfl (fun K0 hK0 => ?_) (AllReadyH.nil)
        · go_simp
          refine (toEntry_any p d _).mono ?_
          rintro e9 v12 ⟨rfl, hb2⟩
          go_wp2_with fail
          have BL12 := Lib.hid (BL11.out.trans (hb2.mono BL11.out.size))
          have X12 := Lib.hid ((hb2.block gx (Array.getElem?_eq_some_iff.1 X11.out).1).trans X11.out)
          have U12 := Lib.hid (U11.out.below hb2 UZ11.out)
          have UZ12 := Lib.hid (Nat.lt_of_lt_of_le UZ11.out hb2.size)
          clear hb2
          refine hK0.out _ _ (KS.out _ BL12.out) (fun hHeld => ?_)
          clear hK0 K0
          try simp only [Act.put, List.getElem_toArray, List.getElem_cons_succ, List.getElem_cons_zero, List.setIfInBounds_toArray, List.set_cons_zero, List.set_cons_succ]
          refine wpAnyH_ready (rs := [4]) (by kernel_rfl) (by simp) ?_
          refine AllReadyH.cons (o := _) rfl (fun K0 hK0 => ?_) (AllReadyH.nil)
          · go_simp
            refine (IP.out _ _ U12.out).mono ?_
            rintro e9 v13 ⟨Aw, nw, cw, rfl, ho, hb2⟩
            go_wp2_with fail
            have O13 := Lib.hid (OR.mono ho (show w15.heap.size ≤ v12.heap.size from BL12.out.size))
            clear ho
            have BL13 := Lib.hid (BL12.out.trans (hb2.mono BL12.out.size))
            have X13 := Lib.hid ((hb2.block gx (Array.getElem?_eq_some_iff.1 X12.out).1).trans X12.out)
            clear hb2
            refine hK0.out _ _ (KS.out _ BL13.out) (fun hHeld => ?_)
            clear hK0 K0
            try simp only [Act.put, List.getElem_toArray, List.getElem_cons_succ, List.getElem_cons_zero, List.setIfInBounds_toArray, List.set_cons_zero, List.set_cons_succ]
            refine wpAnyH_ready (rs := [6]) (by kernel_rfl) (by simp) ?_
            refine AllReadyH.cons (o := _) rfl (fun K0 hK0 => ?_) AllReadyH.nil
            clear hHeld
            have BF := Lib.hid (below_setRow BL13.out GB.out #[.int .i64 q, .slice Aw nw cw])
            have KF := Lib.hid (KS.out _ BF.out)
            rw [if_pos (by rfl)]
            refine wp_store_row 30 _ _ rfl gx _ rfl rfl 30 _ X13.out (by kernel_rfl) rfl (by simp [Value.oneCell']) ?_
            refine hK0.out _ _ KF.out (fun hHeld => ?_)
            clear hK0 K0
            refine wpAnyH_done (by kernel_rfl) ?_ _
            go_wp2_with fail
            go_meet
            exact ⟨_, _, _, _, rfl, setRow_heap _ _ _ _ _ _ X13.out, O13.out.keepAll (fun g e => setRow_other _ _ _ _ (by subst e; exact or_neT X13.out (by decide) O13.out)), ⟨GB.out, by have := (Array.getElem?_eq_some_iff.1 X13.out).1; simp; omega⟩, BF.out⟩
  case rest =>
  obtain ⟨b12, Ac, nc, cc, rfl, xc, oc, zc, hb⟩ := hcut
  clear q0 q1
  obtain ⟨w17, hw17⟩ : ∃ w17, w17 = wc := ⟨_, rfl⟩
  rw [← hw17] at xc oc zc hb ⊢
  clear hw17
  have XC := Lib.hid xc; have OC := Lib.hid oc
  have K17 := Lib.hid (K15.out.then_below hb)
  have H17 := Lib.hid (H15.out.trans (hb.mono H15.out.size))
  clear xc oc zc hb
  obtain ⟨⟨x0, x1⟩, ⟨y0, y1⟩, ⟨q0, q1⟩, oA⟩ := QA.out w17 K17.out
  obtain ⟨r0, r1⟩ : w17.cell? ⟨b12, 0, none⟩ = some (.int .i64 q) ∧ w17.cell? ⟨b12, 1, none⟩ = some (.slice Ac nc cc) := ⟨cell_of_row w17 _ 0 _ _ _ XC.out, cell_of_row w17 _ 1 _ _ _ XC.out⟩
  have la := oA.len; have lc := OC.out.len
  obtain rfl : na = nc := by omega
  clear la lc
  go_wp2_with fail
  refine (eqHeapR_own _ w17.heap.size w1.heap.size w17.heap.size Ac Aa na cc ca q H w17 (by have := NS.out; omega) OC.out.sl0 oA.sl0).mono ?_
  rintro e9 w18 ⟨rfl, hb⟩
  have K18 := Lib.hid (K17.out.then_below hb)
  have H18 := Lib.hid (H17.out.trans (hb.mono H17.out.size))
  clear hb r0 r1 OC XC
  clear x0 y0 x1 y1 q0 q1 oA
  obtain ⟨⟨x0, x1⟩, ⟨y0, y1⟩, ⟨q0, q1⟩, oA⟩ := QA.out w18 K18.out
  go_wp2_with fail
  refine (HE.out _ H18.out).mono ?_
  rintro e9 w19 ⟨rfl, hb⟩
  have FR := Lib.hid (FIN.out _ (UP.out _ (K14.out.then_below hb)))
  clear hb
  clear x0 y0 x1 y1 q0 q1 oA
  go_wp2
  go_ret
  exact ⟨rfl, FR.out⟩

end Go.Proofs.Ytfaamjbdffcngaa
