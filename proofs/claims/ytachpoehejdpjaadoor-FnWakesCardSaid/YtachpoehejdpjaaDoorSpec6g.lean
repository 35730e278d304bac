/-
  The model's WakeAll. No conditions beyond that the lists can be read.
-/
import Derived.Test.YtachpoehejdpjaaDoorMath6b
import Derived.Test.YtachpoehejdpjaaDoorSpec6d
import Derived.Test.YtachpoehejdpjaaDoorSpec6e
namespace Go.Proofs.YtachpoehejdpjaaDoor
open Go.RowKit
set_option maxRecDepth 100000

/-- a round of waking all: the answer so far in its box g6 -/
def Round6 (w1 wr : World) (g6 m : Nat) (ys : List Int) (tot : A6) (i : Value) : Prop :=
  ∃ (k : Nat) (tg : Bool) (tn to : Int) (tl : List Int) (A' : Option Addr) (c' : Nat), k ≤ m ∧ i = .int .i64 k ∧ wr.heap[g6]? = some (.cells #[.int .i64 0, .bool tg, .int .i64 tn, .int .i64 to, .slice A' tl.length c', .slice none 0 0] 30 (0, 0)) ∧ OR 2 1 wr w1.heap.size A' tl.length c' tl ∧ lf6 to tl = 0 ∧ go6 (ys.drop k) (0, tg, tn, to, tl, []) = tot ∧ Below w1.heap.size w1 wr
theorem round6_mk {w1 wr : World} {g6 m : Nat} {ys : List Int} {tot : A6} {i : Value} (k : Nat) (tg : Bool) (tn to : Int) (tl : List Int) (A' : Option Addr) (c' : Nat) (h0 : k ≤ m) (h1 : i = .int .i64 k) (h2 : wr.heap[g6]? = some (.cells #[.int .i64 0, .bool tg, .int .i64 tn, .int .i64 to, .slice A' tl.length c', .slice none 0 0] 30 (0, 0))) (h3 : OR 2 1 wr w1.heap.size A' tl.length c' tl) (h4 : lf6 to tl = 0) (h5 : go6 (ys.drop k) (0, tg, tn, to, tl, []) = tot) (h6 : Below w1.heap.size w1 wr) : Round6 w1 wr g6 m ys tot i :=
  ⟨k, tg, tn, to, tl, A', c', h0, h1, h2, h3, h4, h5, h6⟩
set_option maxHeartbeats 4000000 in
theorem specWakeAll_any (lo hi lo' hi' : Nat) (A B : Option Addr) (n c m d : Nat) (o : Int) (xs ys : List Int) (w : World) (hn : n ≤ 1048576) (hnc : n ≤ c) (ex : xs.length = n) (hA : A = none → c = 0) (h : Sl w lo hi A n (fun k => .int .i64 (gi xs k)))
    (hm : m ≤ 1048576) (hmd : m ≤ d) (ey : ys.length = m) (hB : B = none → d = 0) (k : Sl w lo' hi' B m (fun k => .int .i64 (gi ys k))) :
    Calls Tryd.prog 22 #[.slice B m d, .agg #[.int .i64 o, .slice A n c]] w (LA (all6 ys o xs) w) := by
  obtain ⟨w1, hw1⟩ : ∃ w1, w1 = (w.alloc (.cells #[.int .i64 o, .slice A n c] 26)).alloc (.cells #[.int .i64 0, .bool false, .int .i64 0, .int .i64 0, .slice none 0 0, .slice none 0 0] 30) := ⟨_, rfl⟩
  have K1 : Hid (w1.heap[w.heap.size]? = some (.cells #[.int .i64 o, .slice A n c] 26 (0, 0))) := by show _ = _; rw [hw1]; exact heap_alloc2_old w _ _
  have K2 : Hid (w1.heap[w.heap.size + 1]? = some (.cells #[.int .i64 0, .bool false, .int .i64 0, .int .i64 0, .slice none 0 0, .slice none 0 0] 30 (0, 0))) := by show _ = _; rw [hw1]; exact heap_alloc2_new w _ _
  have B1 : Hid (Below w.heap.size w w1) := by rw [hw1]; exact (below_new w _).alloc (by simp) _
  have Z1 : Hid (w1.heap.size = w.heap.size + 2) := by show _ = _; rw [hw1]; simp
  have KB : Hid (∀ W, Below w1.heap.size w1 W → W.heap[w.heap.size]? = some (.cells #[.int .i64 o, .slice A n c] 26 (0, 0))) := fun W hW => (hW.block w.heap.size (by have := Z1.out; omega)).trans K1.out
  have KS : Hid (∀ W, Below w1.heap.size w1 W → W.cell? ⟨w.heap.size, 0, none⟩ = some (.int .i64 o) ∧ W.cell? ⟨w.heap.size, 1, none⟩ = some (.slice A n c)) := fun W hW => by
    have j := KB.out W hW
    exact ⟨cell_of_row W _ 0 _ _ _ j, cell_of_row W _ 1 _ _ _ j⟩
  have KR : Hid (∀ W, Below w1.heap.size w1 W → W.heap[w.heap.size + 1]? = some (.cells #[.int .i64 0, .bool false, .int .i64 0, .int .i64 0, .slice none 0 0, .slice none 0 0] 30 (0, 0))) := fun W hW => (hW.block (w.heap.size + 1) (by have := Z1.out; omega)).trans K2.out
  have FIN : Hid (∀ W, Below w1.heap.size w1 W → Below w.heap.size w W) := fun W hW => B1.out.trans (hW.mono (by have := Z1.out; omega))
  have HL := Lib.hid h.lt
  have HY := Lib.hid k.lt
  have EX := Lib.hid ex
  have EY := Lib.hid ey
  have NC := Lib.hid hnc
  have MD := Lib.hid hmd
  have HAN := Lib.hid hA
  have HBN := Lib.hid hB
  have HW1 := Lib.hid hw1
  clear hw1 hnc ex hA h hmd ey hB k
  have WK := Lib.hid (l6Wakes_any lo (min hi w.heap.size) lo' (min hi' w.heap.size) A B n c m d w.heap.size o xs ys w1 (by omega) NC.out EX.out (HL.out.below B1.out (by omega)) K1.out (by omega) MD.out EY.out (HY.out.below B1.out (by omega)))
  go_enter Tryd.func22, Tryd.ntmps22
  go_upto_region 1 with (fail)
  rw [← HW1.out]
  clear HW1
  go_wp2_with fail
  refine WK.out.mono ?_
  rintro e9 w3 ⟨rfl, hb⟩
  have B3 := Lib.hid hb
  clear hb WK
  obtain ⟨q, hq⟩ : ∃ q, q = wf6 ys o xs := ⟨_, rfl⟩
  rw [← hq]
  by_cases hz : q = 0
  rotate_left
  · have hz' : (q != 0) = true := by simp [hz]
    have HA : Hid (all6 ys o xs = z6 q) := by show _ = _; unfold all6; rw [if_pos (by rw [← hq]; exact hz), hq]
    clear hq hz
    have RB := KR.out w3 B3.out
    have r0 := cell_of_row w3 _ 0 _ _ _ RB; have f0 := frozen_of_row w3 _ 0 _ _ RB
    have r1 := cell_of_row w3 _ 1 _ _ _ RB; have f1 := frozen_of_row w3 _ 1 _ _ RB
    have r2 := cell_of_row w3 _ 2 _ _ _ RB; have f2 := frozen_of_row w3 _ 2 _ _ RB
    have r3 := cell_of_row w3 _ 3 _ _ _ RB; have f3 := frozen_of_row w3 _ 3 _ _ RB
    have r4 := cell_of_row w3 _ 4 _ _ _ RB; have f4 := frozen_of_row w3 _ 4 _ _ RB
    have r5 := cell_of_row w3 _ 5 _ _ _ RB; have f5 := frozen_of_row w3 _ 5 _ _ RB
    simp at r0 r1 r2 r3 r4 r5
    have HRB := Lib.hid RB
    clear RB
    go_wp2
    refine bodyPost_ret (results_cell_row rfl _ _ _ _ _ (0, 0) _ rfl (set6_block HRB.out _ _ _ _ _ _) Tryd.underlying30 rfl (by kernel_rfl)) rfl ?_
    rw [HA.out]
    exact la_box HRB.out (by omega) (FIN.out _ B3.out) (z6 (q)) (OR.void _ _) (OR.void _ _) (Apart.none_left _)
  have HA : Hid (all6 ys o xs = wa6 ys o xs) := by show _ = _; unfold all6; rw [if_neg (by rw [← hq]; simp [hz])]
  have HF := Lib.hid (wf6_zero (hq.symm.trans hz))
  subst hz
  clear hq
  have CP : Hid (Calls Tryd.prog 37 #[.pointer (some ⟨w.heap.size, 0, none⟩)] w3 fun e w' => ∃ A' c', e = .returned (.agg #[.int .i64 o, .slice A' n c']) ∧ OR 2 1 w' w1.heap.size A' n c' xs ∧ Below w1.heap.size w1 w') :=
    (l6Copy_any lo (min hi w.heap.size) A n c w.heap.size o xs w3 (by omega) EX.out HAN.out (HL.out.below (FIN.out w3 B3.out) (by omega)) (KB.out w3 B3.out)).mono fun e w' ⟨A', c', h1, h2, h3⟩ => ⟨A', c', h1, OR.mono h2 B3.out.size, B3.out.trans (h3.mono B3.out.size)⟩
  go_wp2_with fail
  refine CP.out.mono ?_
  rintro e9 w4 ⟨A0, c0, rfl, ho, hb⟩
  have O4 := Lib.hid ho
  have B4 := Lib.hid hb
  clear ho hb CP
  obtain ⟨w5, hw5⟩ : ∃ w5, w5 = w4.alloc (.cells #[.int .i64 0, .bool false, .int .i64 (-1), .int .i64 o, .slice A0 n c0, .slice none 0 0] 30) := ⟨_, rfl⟩
  obtain ⟨g6, hg6⟩ : ∃ g, g = w4.heap.size := ⟨_, rfl⟩
  have K5 : Hid (w5.heap[g6]? = some (.cells #[.int .i64 0, .bool false, .int .i64 (-1), .int .i64 o, .slice A0 n c0, .slice none 0 0] 30 (0, 0))) := by show _ = _; rw [hw5, hg6]; exact heap_alloc_new w4 _
  have O5 : Hid (OR 2 1 w5 w1.heap.size A0 n c0 xs) := by rw [hw5]; exact OR.alloc O4.out _
  have B5 : Hid (Below w1.heap.size w1 w5) := by rw [hw5]; exact B4.out.alloc B4.out.size _
  have Z6 := Lib.hid (show w1.heap.size ≤ g6 by rw [hg6]; exact B4.out.size)
  have HW5 := Lib.hid hw5
  clear hw5
  go_upto_region 5 with (fail)
  rw [← HW5.out, ← hg6]
  clear HW5 hg6
  go_wp2_with fail
  go_loopw [7] (fun i wr => Round6 w1 wr g6 m ys (wa6 ys o xs) i) (fun i _ => m - (intOf i).toNat)
  case atStart =>
    have e := EX.out
    refine round6_mk 0 false (-1) o xs A0 c0 (Nat.zero_le _) rfl ?_ ?_ HF.out.2 (by rw [List.drop_zero]; rfl) B5.out
    · rw [e]; exact K5.out
    · rw [e]; exact O5.out
  case round =>
    obtain ⟨k, tg, tn, to, tl, A', c', hk, rfl, hbx, hol, hlf, hgo, hbw⟩ := hrel
    have XB := Lib.hid hbx; have OL := Lib.hid hol; have LF := Lib.hid hlf; have GO := Lib.hid hgo; have BW := Lib.hid hbw
    have FW := Lib.hid (lf6_few hlf)
    clear hbx hol hlf hgo hbw K5 O5 B5
    by_cases hlt : k < m
    · have ar : (k : Int) < m := by omega
      obtain ⟨b, off, rfl, h1, h2, hc⟩ := (HY.out.below (FIN.out wr BW.out) (by omega)).at_ hlt
      have hck := hc k hlt
      obtain ⟨yk, hyk⟩ : ∃ y, y = gi ys k := ⟨_, rfl⟩
      rw [← hyk] at hck
      have CK := Lib.hid hck
      have HYK := Lib.hid hyk
      have LT := Lib.hid (show k < ys.length by rw [EY.out]; exact hlt)
      have BLK := Lib.hid (show b < w.heap.size by omega)
      have LTM := Lib.hid hlt
      have KX : Hid (∀ W, Below wr.heap.size wr W → W.cell? ⟨g6, 3, none⟩ = some (.int .i64 to) ∧ W.cell? ⟨g6, 4, none⟩ = some (.slice A' tl.length c') ∧ W.cell? ⟨b, off + k, none⟩ = some (.int .i64 yk)) := fun W hW => by
        have j := (hW.block g6 (Array.getElem?_eq_some_iff.1 XB.out).1).trans XB.out
        exact ⟨cell_of_row W _ 3 _ _ _ j, cell_of_row W _ 4 _ _ _ j, (hW.cell (p := ⟨b, off + k, none⟩) (by have := (World.block_lt_of_cell? _ _ CK.out); simpa using this)).trans CK.out⟩
      have TL : Hid (∀ W, Below wr.heap.size wr W → Calls Tryd.prog 11 #[.agg #[.int .i64 to, .slice A' tl.length c'], .int .i64 yk] W (LA (tk6 to tl yk) W)) := fun W hW => by
        have := specTakeLock_any 0 wr.heap.size A' tl.length c' to tl yk W (by have := FW.out; omega) (OR.cap OL.out) rfl (OR.capA OL.out) (by have h := (OR.sl0 OL.out); rw [Nat.mul_one] at h; exact (h.wide (Nat.zero_le _) (Nat.le_refl _)).below hW (Nat.le_refl _))
        rw [take6_ok LF.out] at this
        exact this
      have TKO : Hid ((tk6 to tl yk).1 = 0 → lf6 (tk6 to tl yk).2.2.2.1 (tk6 to tl yk).2.2.2.2.1 = 0) := fun h => tk6_ok LF.out h
      have GE1 : Hid ((tk6 to tl yk).1 ≠ 0 → wa6 ys o xs = z6 (tk6 to tl yk).1) := fun h => by rw [← GO.out, go6_err ys k LT.out tg tn to tl (by rw [← HYK.out]; exact h), ← HYK.out]
      have GE2 : Hid ((tk6 to tl yk).1 = 0 → (tk6 to tl yk).2.1 = true → go6 (ys.drop (k + 1)) (0, true, yk, (tk6 to tl yk).2.2.2.1, (tk6 to tl yk).2.2.2.2.1, []) = wa6 ys o xs) := fun h h' => by rw [← GO.out, go6_got ys k LT.out tg tn to tl (by rw [← HYK.out]; exact h) (by rw [← HYK.out]; exact h'), ← HYK.out]
      have GE3 : Hid ((tk6 to tl yk).1 = 0 → (tk6 to tl yk).2.1 = false → go6 (ys.drop (k + 1)) (0, tg, tn, (tk6 to tl yk).2.2.2.1, (tk6 to tl yk).2.2.2.2.1, []) = wa6 ys o xs) := fun h h' => by rw [← GO.out, go6_not ys k LT.out tg tn to tl (by rw [← HYK.out]; exact h) (by rw [← HYK.out]; exact h'), ← HYK.out]
      generalize tk6 to tl yk = t at *
      obtain ⟨sq, sg, sn, so, sl, s2⟩ := t
      have TL : Hid (∀ W, Below wr.heap.size wr W → Calls Tryd.prog 11 #[.agg #[.int .i64 to, .slice A' tl.length c'], .int .i64 yk] W fun e w' => ∃ A2 c2 B2 d2, e = .returned (.agg #[.int .i64 sq, .bool sg, .int .i64 sn, .int .i64 so, .slice A2 sl.length c2, .slice B2 s2.length d2]) ∧ (sq = 0 → OR 2 1 w' w1.heap.size A2 sl.length c2 sl) ∧ Below wr.heap.size wr w' ∧ Below W.heap.size W w') := fun W hW =>
        (TL.out W hW).mono fun e w' ⟨A2, c2, B2, d2, h1, h2, h3, _, h5⟩ => ⟨A2, c2, B2, d2, h1, fun _ => OR.mono h2 (Nat.le_trans BW.out.size hW.size), hW.trans (h5.mono hW.size), h5⟩
      have TKO : Hid (sq = 0 → lf6 so sl = 0) := TKO.out
      have GE1 : Hid (sq ≠ 0 → wa6 ys o xs = z6 sq) := GE1.out
      have GE2 : Hid (sq = 0 → sg = true → go6 (ys.drop (k + 1)) (0, true, yk, so, sl, []) = wa6 ys o xs) := GE2.out
      have GE3 : Hid (sq = 0 → sg = false → go6 (ys.drop (k + 1)) (0, tg, tn, so, sl, []) = wa6 ys o xs) := GE3.out
      obtain ⟨j, hj⟩ : ∃ j : Nat, j = k := ⟨_, rfl⟩
      have KL : Hid (∀ W, Below wr.heap.size wr W → W.cell? ⟨g6, 3, none⟩ = some (.int .i64 to) ∧ W.cell? ⟨g6, 4, none⟩ = some (.slice A' tl.length c') ∧ W.cell? ⟨b, off + j, none⟩ = some (.int .i64 yk)) := fun W hW => by rw [hj]; exact KX.out W hW
      subst hj
      clear hc h1 h2 hck hyk
      go_upto_region 8 with (fail)
      go_cut [8, 47] from 23 (fun x8 x47 wx => ∃ (g8 : Nat) (A2 : Option Addr) (c2 : Nat) (B2 : Option Addr) (d2 : Nat), x8 = .pointer (some ⟨g8, 0, none⟩) ∧ x47 = undef ∧ wx.heap[g8]? = some (.cells #[.int .i64 sq, .bool sg, .int .i64 sn, .int .i64 so, .slice A2 sl.length c2, .slice B2 s2.length d2] 30 (0, 0)) ∧ wr.heap.size ≤ g8 ∧ (sq = 0 → OR 2 1 wx w1.heap.size A2 sl.length c2 sl) ∧ Below wr.heap.size wr wx)
      case first => as_aux_lemma =>
          refine wp_region_held_drew (S := fun W => W.cell? ⟨g6, 3, none⟩ = some (.int .i64 to) ∧ W.cell? ⟨g6, 4, none⟩ = some (.slice A' tl.length c') ∧ W.cell? ⟨b, off + j, none⟩ = some (.int .i64 yk)) (by kernel_rfl) (KL.out _ (Below.drew (Below.refl _ _))) (fun hHeld => ?_)
          obtain ⟨v0, hv0⟩ : ∃ v0, v0 = wr.drew := ⟨_, rfl⟩
          have BL0 : Hid (Below wr.heap.size wr v0) := by rw [hv0]; exact Below.drew (Below.refl _ _)
          rw [← hv0] at hHeld ⊢
          clear hv0
          refine wpAnyH_take (i := 0) (oi := _) (v := ?_) rfl (by kernel_rfl) (by kernel_rfl) (by kernel_rfl) (fun _ _ _ h => h) (Or.inl ⟨by rfl, ?_⟩) hHeld ?_
          rotate_left
          · (intro w hSw; (try dsimp only at hSw); go_simp; try with_reducible rfl)
          try simp only [Act.put, List.getElem_toArray, List.getElem_cons_succ, List.getElem_cons_zero, List.setIfInBounds_toArray, List.set_cons_zero, List.set_cons_succ]
          refine wpAnyH_take (i := 1) (oi := _) (v := ?_) rfl (by kernel_rfl) (by kernel_rfl) (by kernel_rfl) (fun _ _ _ h => h) (Or.inl ⟨by rfl, ?_⟩) hHeld ?_
          rotate_left
          · (intro w hSw; (try dsimp only at hSw); go_simp; try with_reducible rfl)
          try simp only [Act.put, List.getElem_toArray, List.getElem_cons_succ, List.getElem_cons_zero, List.setIfInBounds_toArray, List.set_cons_zero, List.set_cons_succ]
          refine wpAnyH_take (i := 2) (oi := _) (v := ?_) rfl (by kernel_rfl) (by kernel_rfl) (by kernel_rfl) (fun _ _ _ h => h) (Or.inl ⟨by rfl, ?_⟩) hHeld ?_
          rotate_left
          · (intro w hSw; (try dsimp only at hSw); go_simp; try with_reducible rfl)
          try simp only [Act.put, List.getElem_toArray, List.getElem_cons_succ, List.getElem_cons_zero, List.setIfInBounds_toArray, List.set_cons_zero, List.set_cons_succ]
          refine wpAnyH_take (i := 3) (oi := _) (v := ?_) rfl (by kernel_rfl) (by kernel_rfl) (by kernel_rfl) (fun _ _ _ h => h) (Or.inl ⟨by rfl, ?_⟩) hHeld ?_
          rotate_left
          · (intro w hSw; (try dsimp only at hSw); go_simp; try with_reducible rfl)
          try simp only [Act.put, List.getElem_toArray, List.getElem_cons_succ, List.getElem_cons_zero, List.setIfInBounds_toArray, List.set_cons_zero, List.set_cons_succ]
          refine wpAnyH_take (i := 4) (oi := _) (v := ?_) rfl (by kernel_rfl) (by kernel_rfl) (by kernel_rfl) (fun _ _ _ h => h) (Or.inl ⟨by rfl, ?_⟩) hHeld ?_
          rotate_left
          · (intro w hSw; (try dsimp only at hSw); go_simp; try with_reducible rfl)
          try simp only [Act.put, List.getElem_toArray, List.getElem_cons_succ, List.getElem_cons_zero, List.setIfInBounds_toArray, List.set_cons_zero, List.set_cons_succ]
          refine wpAnyH_take (i := 5) (oi := _) (v := ?_) rfl (by kernel_rfl) (by kernel_rfl) (by kernel_rfl) (fun _ _ _ h => h) (Or.inl ⟨by rfl, ?_⟩) hHeld ?_
          rotate_left
          · (intro w hSw; (try dsimp only at hSw); go_simp; try with_reducible rfl)
          try simp only [Act.put, List.getElem_toArray, List.getElem_cons_succ, List.getElem_cons_zero, List.setIfInBounds_toArray, List.set_cons_zero, List.set_cons_succ]
          refine wpAnyH_ready (rs := [6, 7]) (by kernel_rfl) (by simp) ?_
          refine AllReadyH.cons (o := _) rfl (fun K0 hK0 => ?_) (AllReadyH.cons (o := _) rfl (fun K0 hK0 => ?_) AllReadyH.nil)
          · go_simp
            refine (TL.out _ BL0.out).mono ?_
            rintro e9 v1 ⟨A2, c2, B2, d2, rfl, ho, hb, hbb⟩
            go_wp2_with fail
            have BK := Lib.hid hb
            have OW := Lib.hid ho
            clear ho hb hbb
            refine hK0.out _ _ (KL.out _ BK.out) (fun hHeld => ?_)
            clear hK0 K0
            try simp only [Act.put, List.getElem_toArray, List.getElem_cons_succ, List.getElem_cons_zero, List.setIfInBounds_toArray, List.set_cons_zero, List.set_cons_succ]
            refine wpAnyH_ready (rs := [7]) (by kernel_rfl) (by simp) ?_
            refine AllReadyH.cons (o := _) rfl (fun K0 hK0 => ?_) AllReadyH.nil
            go_simp
            refine hK0.out _ _ (KL.out _ (BK.out.alloc BK.out.size _)) (fun hHeld => ?_)
            clear hK0 K0
            try simp only [Act.put, List.getElem_toArray, List.getElem_cons_succ, List.getElem_cons_zero, List.setIfInBounds_toArray, List.set_cons_zero, List.set_cons_succ]
            refine wpAnyH_ready (rs := [8]) (by kernel_rfl) (by simp) ?_
            refine AllReadyH.cons (o := _) rfl (fun K0 hK0 => ?_) AllReadyH.nil
            clear hHeld
            rw [if_pos (by rfl)]
            refine wp_store_row 30 _ _ rfl (v1.heap.size) _ rfl rfl 30 _ (heap_alloc_new _ _) (by kernel_rfl) rfl (by simp [Value.oneCell']) ?_
            refine hK0.out _ _ (KL.out _ (below_setRow (BK.out.alloc BK.out.size _) BK.out.size _)) (fun hHeld => ?_)
            clear hK0 K0
            try simp only [Act.put, List.getElem_toArray, List.getElem_cons_succ, List.getElem_cons_zero, List.setIfInBounds_toArray, List.set_cons_zero, List.set_cons_succ]
            refine wpAnyH_done (by kernel_rfl) ?_ _
            go_wp2_with fail
            go_meet
            case rel => exact ⟨v1.heap.size, A2, c2, B2, d2, rfl, rfl, setRow_heap _ _ _ _ _ _ (heap_alloc_new _ _), BK.out.size, fun hq => OR.rowOther6 (OR.alloc (OW.out hq) _) (heap_alloc_new _ _) (by decide) _, below_setRow (BK.out.alloc BK.out.size _) BK.out.size _⟩
          · go_simp
            have ZB0 := Lib.hid (show wr.heap.size ≤ v0.heap.size from BL0.out.size)
            refine hK0.out _ _ (KL.out _ (BL0.out.alloc BL0.out.size _)) (fun hHeld => ?_)
            clear hK0 K0
            try simp only [Act.put, List.getElem_toArray, List.getElem_cons_succ, List.getElem_cons_zero, List.setIfInBounds_toArray, List.set_cons_zero, List.set_cons_succ]
            refine wpAnyH_ready (rs := [6]) (by kernel_rfl) (by simp) ?_
            refine AllReadyH.cons (o := _) rfl (fun K0 hK0 => ?_) AllReadyH.nil
            go_simp
            refine (TL.out _ (BL0.out.alloc BL0.out.size _)).mono ?_
            rintro e9 v1 ⟨A2, c2, B2, d2, rfl, ho, hb, hbb⟩
            go_wp2_with fail
            have BK := Lib.hid hb
            have OW := Lib.hid ho
            have ZB := Lib.hid ((hbb.block v0.heap.size (by simp)).trans (heap_alloc_new v0 _))
            clear ho hb hbb
            refine hK0.out _ _ (KL.out _ BK.out) (fun hHeld => ?_)
            clear hK0 K0
            try simp only [Act.put, List.getElem_toArray, List.getElem_cons_succ, List.getElem_cons_zero, List.setIfInBounds_toArray, List.set_cons_zero, List.set_cons_succ]
            refine wpAnyH_ready (rs := [8]) (by kernel_rfl) (by simp) ?_
            refine AllReadyH.cons (o := _) rfl (fun K0 hK0 => ?_) AllReadyH.nil
            clear hHeld
            rw [if_pos (by rfl)]
            refine wp_store_row 30 _ _ rfl (v0.heap.size) _ rfl rfl 30 _ ZB.out (by kernel_rfl) rfl (by simp [Value.oneCell']) ?_
            refine hK0.out _ _ (KL.out _ (below_setRow BK.out ZB0.out _)) (fun hHeld => ?_)
            clear hK0 K0
            try simp only [Act.put, List.getElem_toArray, List.getElem_cons_succ, List.getElem_cons_zero, List.setIfInBounds_toArray, List.set_cons_zero, List.set_cons_succ]
            refine wpAnyH_done (by kernel_rfl) ?_ _
            go_wp2_with fail
            go_meet
            case rel => exact ⟨v0.heap.size, A2, c2, B2, d2, rfl, rfl, setRow_heap _ _ _ _ _ _ ZB.out, ZB0.out, fun hq => OR.rowOther6 (OW.out hq) ZB.out (by decide) _, below_setRow BK.out ZB0.out _⟩
      case rest => as_aux_lemma =>
        obtain ⟨wx, hwx⟩ : ∃ wx, wx = wc := ⟨_, rfl⟩
        subst hwx
        obtain ⟨g8, A2, c2, B2, d2, rfl, rfl, hk8, hz8, ho8, hb8⟩ := hcut
        have K8 := Lib.hid hk8; have O8 := Lib.hid ho8; have B8 := Lib.hid (BW.out.trans (hb8.mono BW.out.size))
        have X8 := Lib.hid ((hb8.block g6 (Array.getElem?_eq_some_iff.1 XB.out).1).trans XB.out)
        have NE := Lib.hid (show g6 ≠ g8 by have := (Array.getElem?_eq_some_iff.1 XB.out).1; omega)
        have ky := (KL.out wx hb8).2.2
        have s0 := cell_of_row wx _ 0 _ _ _ hk8; have s1 := cell_of_row wx _ 1 _ _ _ hk8; have s3 := cell_of_row wx _ 3 _ _ _ hk8; have s4 := cell_of_row wx _ 4 _ _ _ hk8
        simp at s0 s1 s3 s4
        clear hk8 hz8 ho8 hb8 TL KL KX
        by_cases hz : sq = 0
        rotate_left
        · have hz' : (sq != 0) = true := by simp [hz]
          have HC : Hid (all6 ys o xs = z6 sq) := by show _ = _; rw [HA.out, GE1.out hz]
          clear hz
          have RB := KR.out wx B8.out
          have r0 := cell_of_row wx _ 0 _ _ _ RB; have f0 := frozen_of_row wx _ 0 _ _ RB
          have r1 := cell_of_row wx _ 1 _ _ _ RB; have f1 := frozen_of_row wx _ 1 _ _ RB
          have r2 := cell_of_row wx _ 2 _ _ _ RB; have f2 := frozen_of_row wx _ 2 _ _ RB
          have r3 := cell_of_row wx _ 3 _ _ _ RB; have f3 := frozen_of_row wx _ 3 _ _ RB
          have r4 := cell_of_row wx _ 4 _ _ _ RB; have f4 := frozen_of_row wx _ 4 _ _ RB
          have r5 := cell_of_row wx _ 5 _ _ _ RB; have f5 := frozen_of_row wx _ 5 _ _ RB
          simp at r0 r1 r2 r3 r4 r5
          have HRB := Lib.hid RB
          clear RB
          go_wp2
          refine bodyPost_ret (results_cell_row rfl _ _ _ _ _ (0, 0) _ rfl (set6_block HRB.out _ _ _ _ _ _) Tryd.underlying30 rfl (by kernel_rfl)) rfl ?_
          rw [HC.out]
          exact la_box HRB.out (by omega) (FIN.out _ B8.out) (z6 (sq)) (OR.void _ _) (OR.void _ _) (Apart.none_left _)
        subst hz
        have x3 := cell_of_row wx _ 3 _ _ _ X8.out; have x4 := cell_of_row wx _ 4 _ _ _ X8.out; have f3 := frozen_of_row wx _ 3 _ _ X8.out; have f4 := frozen_of_row wx _ 4 _ _ X8.out
        simp at x3 x4
        obtain ⟨wy, hwy⟩ : ∃ wy, wy = (wx.setCell ⟨g6, 3, none⟩ (.int .i64 so)).setCell ⟨g6, 4, none⟩ (.slice A2 sl.length c2) := ⟨_, rfl⟩
        have XX := heap_setCell_same wx g6 3 _ _ (.int .i64 so) X8.out
        have XY : Hid (wy.heap[g6]? = some (.cells #[.int .i64 0, .bool tg, .int .i64 tn, .int .i64 so, .slice A2 sl.length c2, .slice none 0 0] 30 (0, 0))) := by show _ = _; rw [hwy]; exact heap_setCell_same _ _ 4 _ _ _ XX
        have KY8 : Hid (wy.heap[g8]? = some (.cells #[.int .i64 0, .bool sg, .int .i64 sn, .int .i64 so, .slice A2 sl.length c2, .slice B2 s2.length d2] 30 (0, 0))) := by show _ = _; rw [hwy, Below.heap_setCell _ _ _ _ (by simp; have := NE.out; omega), Below.heap_setCell _ _ _ _ (by simp; have := NE.out; omega)]; exact K8.out
        have OY : Hid (OR 2 1 wy w1.heap.size A2 sl.length c2 sl) := by rw [hwy]; exact OR.setOther6 (OR.setOther6 (O8.out rfl) X8.out (by decide) 3 _) XX (by decide) 4 _
        have BY : Hid (Below w1.heap.size w1 wy) := by rw [hwy]; exact (B8.out.setCell (p := ⟨g6, 3, none⟩) Z6.out _).setCell (p := ⟨g6, 4, none⟩) Z6.out _
        have ky2 : Hid (wy.cell? ⟨b, off + j, none⟩ = some (.int .i64 yk)) := by
          have e1 := (BY.out.cell (p := ⟨b, off + j, none⟩) (by have := BLK.out; have := Z1.out; simp; omega)).trans ((BW.out.cell (p := ⟨b, off + j, none⟩) (by have := BLK.out; have := Z1.out; simp; omega)).symm.trans CK.out)
          exact e1
        have HWY := Lib.hid hwy
        clear hwy XX
        go_upto_region 12 with (fail)
        rw [← HWY.out]
        clear HWY s0 s1 s3 s4 x3 x4 f3 f4 ky
        have s1 := cell_of_row wy _ 1 _ _ _ KY8.out
        simp at s1
        rcases hsg : sg with _ | _
        · have GG := Lib.hid (GE3.out rfl hsg)
          rw [hsg] at s1
          go_wp2
          go_roundw
          case rel =>
            refine round6_mk (j + 1) tg tn so sl A2 c2 ?_ ?_ XY.out OY.out (TKO.out (by first | rfl | trivial)) GG.out BY.out
            · have := LTM.out; omega
            · go_num
          case measure => have := LTM.out; simp [intOf]; omega
        · have GG := Lib.hid (GE2.out rfl hsg)
          rw [hsg] at s1
          have f1 := frozen_of_row wy _ 1 _ _ XY.out; have x1 := cell_of_row wy _ 1 _ _ _ XY.out
          simp at x1
          obtain ⟨wz, hwz⟩ : ∃ wz, wz = wy.setCell ⟨g6, 1, none⟩ (.bool true) := ⟨_, rfl⟩
          have XZ : Hid (wz.heap[g6]? = some (.cells #[.int .i64 0, .bool true, .int .i64 tn, .int .i64 so, .slice A2 sl.length c2, .slice none 0 0] 30 (0, 0))) := by show _ = _; rw [hwz]; exact heap_setCell_same wy g6 1 _ _ (.bool true) XY.out
          have OZ : Hid (OR 2 1 wz w1.heap.size A2 sl.length c2 sl) := by rw [hwz]; exact OR.setOther6 OY.out XY.out (by decide) 1 _
          have BZ : Hid (Below w1.heap.size w1 wz) := by rw [hwz]; exact BY.out.setCell (p := ⟨g6, 1, none⟩) Z6.out _
          have ky3 : Hid (wz.cell? ⟨b, off + j, none⟩ = some (.int .i64 yk)) := by
            have e1 := (BZ.out.cell (p := ⟨b, off + j, none⟩) (by have := BLK.out; have := Z1.out; simp; omega)).trans ((BW.out.cell (p := ⟨b, off + j, none⟩) (by have := BLK.out; have := Z1.out; simp; omega)).symm.trans CK.out)
            exact e1
          have HWZ := Lib.hid hwz
          clear hwz
          go_upto_region 14 with (fail)
          rw [← HWZ.out]
          clear HWZ x1 f1 s1
          have y0 := ky3.out
          have f2 := frozen_of_row wz _ 2 _ _ XZ.out; have x2 := cell_of_row wz _ 2 _ _ _ XZ.out
          simp at x2
          go_wp2
          go_roundw
          case rel =>
            refine round6_mk (j + 1) true yk so sl A2 c2 ?_ ?_ (heap_setCell_same _ _ 2 _ _ _ XZ.out) (OR.setOther6 OZ.out XZ.out (by decide) 2 _) (TKO.out (by first | rfl | trivial)) GG.out (BZ.out.setCell (p := ⟨g6, 2, none⟩) Z6.out _)
            · have := LTM.out; omega
            · go_num
          case measure => have := LTM.out; simp [intOf]; omega
    · have ar : ¬ (k : Int) < m := by omega
      have HC : Hid (all6 ys o xs = (0, tg, tn, to, tl, [])) := by show _ = _; rw [HA.out, ← GO.out, go6_end ys k (by rw [EY.out]; omega)]
      have s0 := cell_of_row wr _ 0 _ _ _ XB.out; have s1 := cell_of_row wr _ 1 _ _ _ XB.out; have s2 := cell_of_row wr _ 2 _ _ _ XB.out; have s3 := cell_of_row wr _ 3 _ _ _ XB.out; have s4 := cell_of_row wr _ 4 _ _ _ XB.out; have s5 := cell_of_row wr _ 5 _ _ _ XB.out
      simp at s0 s1 s2 s3 s4 s5
      have RB := KR.out wr BW.out
      have r0 := cell_of_row wr _ 0 _ _ _ RB; have f0 := frozen_of_row wr _ 0 _ _ RB
      have r1 := cell_of_row wr _ 1 _ _ _ RB; have f1 := frozen_of_row wr _ 1 _ _ RB
      have r2 := cell_of_row wr _ 2 _ _ _ RB; have f2 := frozen_of_row wr _ 2 _ _ RB
      have r3 := cell_of_row wr _ 3 _ _ _ RB; have f3 := frozen_of_row wr _ 3 _ _ RB
      have r4 := cell_of_row wr _ 4 _ _ _ RB; have f4 := frozen_of_row wr _ 4 _ _ RB
      have r5 := cell_of_row wr _ 5 _ _ _ RB; have f5 := frozen_of_row wr _ 5 _ _ RB
      simp at r0 r1 r2 r3 r4 r5
      have HRB := Lib.hid RB
      clear RB
      go_wp2
      refine bodyPost_ret (results_cell_row rfl _ _ _ _ _ (0, 0) _ rfl (set6_block HRB.out _ _ _ _ _ _) Tryd.underlying30 rfl (by kernel_rfl)) rfl ?_
      rw [HC.out]
      exact la_box HRB.out (by omega) (FIN.out _ BW.out) ((0, tg, tn, to, tl, [])) (OR.mono OL.out (by have := Z1.out; omega)) (OR.void _ _) (Apart.none_right _)


end Go.Proofs.YtachpoehejdpjaaDoor
