/-
  The program's PicksOf. No conditions beyond that the list can be read.
-/
import Derived.Test.YtckapndpefkcgaaTk
import Derived.Test.YtckapndpefkcgaaAnsP5
import Derived.Test.YtckapndpefkcgaaImpl5f
set_option maxHeartbeats 1000000
namespace Go.Proofs.Ytckapndpefkcgaa
open List renaming getElem_toArray → zz1, getElem_cons_succ → zz2, getElem_cons_zero → zz3, setIfInBounds_toArray → zz4, set_cons_zero → zz5, set_cons_succ → zz6
open Go.RowKit
set_option maxRecDepth 100000

def QRound (w1 wr : World) (O m : Nat) (tot : AP) : Prop :=
  ∃ (k : Nat) (is : List Int) (b : Int) (xs : List R3) (I : Option Addr) (d : Nat) (A : Option Addr) (c : Nat), is.length + k = m ∧ wr.heap[O]? = some (.cells #[.int .i64 0, .slice I is.length d, .int .i64 b, .slice A xs.length c] 48 (0, 0)) ∧
    OR 2 1 wr w1.heap.size I is.length d is ∧ OR 52 3 wr w1.heap.size A xs.length c (fl xs) ∧ sf5 b xs = 0 ∧ pks5 k is b xs = tot ∧ Below w1.heap.size w1 wr
theorem qround_mk {w1 wr : World} {O m : Nat} {tot : AP} (k : Nat) (is : List Int) (b : Int) (xs : List R3) (I : Option Addr) (d : Nat) (A : Option Addr) (c : Nat) (h1 : is.length + k = m)
    (h2 : wr.heap[O]? = some (.cells #[.int .i64 0, .slice I is.length d, .int .i64 b, .slice A xs.length c] 48 (0, 0))) (h3 : OR 2 1 wr w1.heap.size I is.length d is) (h4 : OR 52 3 wr w1.heap.size A xs.length c (fl xs)) (h5 : sf5 b xs = 0) (h6 : pks5 k is b xs = tot) (h7 : Below w1.heap.size w1 wr) : QRound w1 wr O m tot :=
  ⟨k, is, b, xs, I, d, A, c, h1, h2, h3, h4, h5, h6, h7⟩
def todo5 (O m : Nat) (w : World) : Nat := match w.cell? ⟨O, 1, none⟩ with
  | some (.slice _ n _) => m - n
  | _ => 0
theorem todo5_of {O m n c d : Nat} {w : World} {I A : Option Addr} {q b : Int} {k : Nat} (h : w.heap[O]? = some (.cells #[.int .i64 q, .slice I n d, .int .i64 b, .slice A k c] 48 (0, 0))) : todo5 O m w = m - n := by
  have e := cell_of_row w _ 1 _ _ _ h
  simp at e
  unfold todo5
  rw [e]

set_option maxHeartbeats 2000000 in
theorem cloneR_any (lo hi : Nat) (ad : Addr) (n c : Nat) (xs : List R3) (w : World) (hn : n ≤ 5) (ex : xs.length = n) (h : Sl w lo hi (some ad) (n * 3) (fun k => .int .i64 (gi (fl xs) k))) :
    Calls Try.prog 72 #[.slice (some ad) n c] w fun e w' => ∃ A' c', e = .returned (.slice A' n c') ∧ OR 52 3 w' w.heap.size A' n c' (fl xs) ∧ Below w.heap.size w w' := by
  have H := Lib.hid h
  have FLN := Lib.hid (fl_len xs)
  have EX := Lib.hid ex
  clear h ex
  obtain ⟨i0, hi0, hz0, hz1, hz2⟩ := info_parts infoReady
  have own0 : Hid ((w.alloc (.cells #[] 52)).ownsRow w.heap.size 52 3 (.slice (some ⟨w.heap.size, 0, none⟩) 0 0) 0 []) :=
    ⟨rfl, .inr ⟨w.heap.size, 0, #[], rfl, Nat.le_refl _, heap_alloc_new _ _, Nat.le_refl _, by simp [maxLen], rfl, rfl⟩⟩
  have b0 : Hid (Below w.heap.size w (w.alloc (.cells #[] 52))) := (Below.refl _ _).alloc (Nat.le_refl _) _
  have NW : Hid (∀ j u, (vals (fl xs))[j]? = some u → (w.alloc (.cells #[] 52)).cell? (ad.add j) = some u) := by
    intro j u hu
    have hj : j < (fl xs).length := by have := (List.getElem?_eq_some_iff.1 hu).1; simpa [vals] using this
    rw [vals_get (fl xs) j hj] at hu
    injection hu with hu
    subst hu
    obtain ⟨b, off, hx, h1, h2, hc⟩ := (H.out.lt) j (by rw [← EX.out, ← FLN.out]; exact hj)
    injection hx with hx
    subst hx
    rw [Go.WideShapes.add_plain]
    exact (b0.out.cell (p := ⟨b, off + j, none⟩) (by simp; omega)).trans hc
  have ON : Hid (∀ u ∈ vals (fl xs), u.oneCell' = true) := by
    intro u hu
    simp only [vals, List.mem_map] at hu
    obtain ⟨_, _, rfl⟩ := hu
    rfl
  have LN : Hid ((vals (fl xs)).length = n * 3) := by show _ = _; simp only [vals, List.length_map]; rw [FLN.out, EX.out]
  have hnl : ∀ W, (binOp .eql 41 (.slice (some ad) n c) (.slice none 0 0)).run Try.prog W = .ok (.bool false) W := fun W => by first | rfl | kernel_rfl | simp [go_sem, Try.underlying41]
  go_enter Try.func72, Try.ntmps72
  go_wp2_with (at_builtin; refine wpList_append_own _ rfl (.tmp 5) (.tmp 6) 41 rfl w.heap.size 52 i0 (.agg #[.int .i64 0, .int .i64 0, .int .i64 0]) 3 24 Try.underlying41 hi0 hz0 hz1 hz2 rfl (by decide) _ 0 [] rfl own0.out ad n c (vals (fl xs)) rfl LN.out NW.out ON.out (by unfold maxLen; omega) (by omega) b0.out.size ?_; intro v' w1 hown hgrow _; have HO := Lib.hid hown; have HG := Lib.hid hgrow; clear hown hgrow)
  (try go_wp2)
  go_ret
  have hb : Below w.heap.size w w1 := b0.out.grown HG.out b0.out.size (fun k hk => by have hk' : some w.heap.size = some k := hk; injection hk' with e; omega)
  have ho := HO.out
  simp only [Nat.zero_add, List.nil_append] at ho
  obtain ⟨A', c', rfl, ho⟩ := or_of6 ho
  exact ⟨A', c', rfl, ho, hb⟩

theorem cloneN_any (c : Nat) (w : World) :
    Calls Try.prog 72 #[.slice none 0 c] w fun e w' => ∃ A' c', e = .returned (.slice A' 0 c') ∧ OR 52 3 w' w.heap.size A' 0 c' [] ∧ Below w.heap.size w w' := by
  have hnl : ∀ W, (binOp .eql 41 (.slice none 0 c) (.slice none 0 0)).run Try.prog W = .ok (.bool true) W := fun W => by first | rfl | kernel_rfl | simp [go_sem, Try.underlying41]
  go_enter Try.func72, Try.ntmps72
  go_wp2
  go_ret
  exact ⟨none, 0, rfl, OR.void _ _, Below.refl _ _⟩
theorem cloneA_any (lo hi : Nat) (AA : Option Addr) (n c : Nat) (xs : List R3) (w : World) (hn : n ≤ 5) (ex : xs.length = n) (h : Sl w lo hi AA (n * 3) (fun k => .int .i64 (gi (fl xs) k))) :
    Calls Try.prog 72 #[.slice AA n c] w fun e w' => ∃ A' c', e = .returned (.slice A' n c') ∧ OR 52 3 w' w.heap.size A' n c' (fl xs) ∧ Below w.heap.size w w' := by
  rcases AA with _ | ad
  · have h0 : n = 0 := by
      rcases Nat.eq_zero_or_pos n with e | e
      · exact e
      · obtain ⟨_, _, e2, _⟩ := h 0 (by omega)
        cases e2
    subst h0
    obtain rfl : xs = [] := List.length_eq_zero_iff.1 ex
    exact cloneN_any c w
  · exact cloneR_any lo hi ad n c xs w hn ex h

set_option maxHeartbeats 8000000 in
theorem implPicksOf_any (lo hi : Nat) (AA : Option Addr) (c : Nat) (b : Int) (xs : List R3) (t : Int) (w : World) (hn : xs.length ≤ 9223372036854775807) (h : RS w lo hi AA xs) :
    Calls Try.prog 26 #[.agg #[.int .i64 b, .slice AA xs.length c], .int .i64 t] w (PA (picks5 b xs t) w) := by
  have H := Lib.hid h.lt
  obtain ⟨n, hn'⟩ : ∃ n, n = xs.length := ⟨_, rfl⟩
  have HN := Lib.hid hn'
  have HNN := Lib.hid hn
  rw [← hn']
  clear h hn' hn
  obtain ⟨w1, hw1⟩ : ∃ w1, w1 = (w.alloc (.cells #[.int .i64 b, .slice AA n c] 43)).alloc (.cells #[.int .i64 0, .slice none 0 0, .int .i64 0, .slice none 0 0] 48) := ⟨_, rfl⟩
  have K1 : Hid (w1.heap[w.heap.size]? = some (.cells #[.int .i64 b, .slice AA n c] 43 (0, 0))) := by show _ = _; rw [hw1]; exact heap_alloc2_old w _ _
  have K2 : Hid (w1.heap[w.heap.size + 1]? = some (.cells #[.int .i64 0, .slice none 0 0, .int .i64 0, .slice none 0 0] 48 (0, 0))) := by show _ = _; rw [hw1]; exact heap_alloc2_new w _ _
  have B1 : Hid (Below w.heap.size w w1) := by rw [hw1]; exact (below_new w _).alloc (by simp) _
  have Z1 : Hid (w1.heap.size = w.heap.size + 2) := by show _ = _; rw [hw1]; simp
  have KB : Hid (∀ W, Below w1.heap.size w1 W → W.heap[w.heap.size]? = some (.cells #[.int .i64 b, .slice AA n c] 43 (0, 0))) := fun W hW => (hW.block w.heap.size (by have := Z1.out; omega)).trans K1.out
  have KS : Hid (∀ W, Below w1.heap.size w1 W → W.cell? ⟨w.heap.size, 0, none⟩ = some (.int .i64 b) ∧ W.cell? ⟨w.heap.size, 1, none⟩ = some (.slice AA n c)) := fun W hW => by
    have j := KB.out W hW
    exact ⟨cell_of_row W _ 0 _ _ _ j, cell_of_row W _ 1 _ _ _ j⟩
  have KR : Hid (∀ W, Below w1.heap.size w1 W → W.heap[w.heap.size + 1]? = some (.cells #[.int .i64 0, .slice none 0 0, .int .i64 0, .slice none 0 0] 48 (0, 0))) := fun W hW => (hW.block (w.heap.size + 1) (by have := Z1.out; omega)).trans K2.out
  have FIN : Hid (∀ W, Below w1.heap.size w1 W → Below w.heap.size w W) := fun W hW => B1.out.trans (hW.mono (by have := Z1.out; omega))
  have H1 := Lib.hid (H.out.below B1.out (Nat.min_le_right _ _))
  have SF := Lib.hid (implSchedFault_any lo (min hi w.heap.size) AA c b xs w1 HNN.out H1.out)
  rw [← HN.out] at SF
  obtain ⟨q0, q1⟩ := KS.out w1 (Below.refl _ _)
  have HW1 := Lib.hid hw1
  clear hw1
  go_enter Try.func26, Try.ntmps26
  go_upto_region 1 with (fail)
  rw [← HW1.out]
  clear HW1
  go_wp2_with fail
  refine SF.out.mono ?_
  rintro e w2 ⟨rfl, hb⟩
  have B2 := Lib.hid hb
  clear hb SF q0 q1
  by_cases hk : sf5 b xs = 0
  rotate_left
  · have HA : Hid (picks5 b xs t = ep5 (sf5 b xs)) := by show _ = _; unfold picks5; rw [if_pos hk]
    have hk2 : (sf5 b xs != 0) = true := by simpa using hk
    generalize sf5 b xs = q at *
    have RB := KR.out w2 B2.out
    have r0 := cell_of_row w2 _ 0 _ _ _ RB; have f0 := frozen_of_row w2 _ 0 _ _ RB; have r1 := cell_of_row w2 _ 1 _ _ _ RB; have f1 := frozen_of_row w2 _ 1 _ _ RB; have r2 := cell_of_row w2 _ 2 _ _ _ RB; have f2 := frozen_of_row w2 _ 2 _ _ RB; have r3 := cell_of_row w2 _ 3 _ _ _ RB; have f3 := frozen_of_row w2 _ 3 _ _ RB
    simp at r0 r1 r2 r3
    have HRB := Lib.hid RB
    clear RB
    go_wp2
    refine bodyPost_ret (results_cell_row rfl _ _ _ _ _ (0, 0) _ rfl (set4_block HRB.out _ _ _ _) Try.underlying48 rfl (by kernel_rfl)) rfl ?_
    rw [HA.out]
    exact pa_box HRB.out (by omega) (FIN.out _ B2.out) (ep5 q) (OR.void _ _) (OR.void _ _)
  obtain ⟨z1, z2, z3, z4⟩ := sf5_zero hk
  have HB := Lib.hid z1; have HO := Lib.hid z2; have HR := Lib.hid z3
  have HK := Lib.hid hk
  rw [hk]
  clear hk z1 z2 z3 z4
  by_cases ht : 0 ≤ t ∧ t ≤ 200
  rotate_left
  · have HA : Hid (picks5 b xs t = ep5 3) := by show _ = _; unfold picks5; rw [if_neg (by rw [HK.out]; decide), if_pos (by omega)]
    by_cases t0 : t < 0
    · clear ht
      have RB := KR.out w2 B2.out
      have r0 := cell_of_row w2 _ 0 _ _ _ RB; have f0 := frozen_of_row w2 _ 0 _ _ RB; have r1 := cell_of_row w2 _ 1 _ _ _ RB; have f1 := frozen_of_row w2 _ 1 _ _ RB; have r2 := cell_of_row w2 _ 2 _ _ _ RB; have f2 := frozen_of_row w2 _ 2 _ _ RB; have r3 := cell_of_row w2 _ 3 _ _ _ RB; have f3 := frozen_of_row w2 _ 3 _ _ RB
      simp at r0 r1 r2 r3
      have HRB := Lib.hid RB
      clear RB
      go_wp2
      refine bodyPost_ret (results_cell_row rfl _ _ _ _ _ (0, 0) _ rfl (set4_block HRB.out _ _ _ _) Try.underlying48 rfl (by kernel_rfl)) rfl ?_
      rw [HA.out]
      exact pa_box HRB.out (by omega) (FIN.out _ B2.out) (ep5 3) (OR.void _ _) (OR.void _ _)
    · have t1 : (200 : Int) < t := by omega
      clear ht
      have RB := KR.out w2 B2.out
      have r0 := cell_of_row w2 _ 0 _ _ _ RB; have f0 := frozen_of_row w2 _ 0 _ _ RB; have r1 := cell_of_row w2 _ 1 _ _ _ RB; have f1 := frozen_of_row w2 _ 1 _ _ RB; have r2 := cell_of_row w2 _ 2 _ _ _ RB; have f2 := frozen_of_row w2 _ 2 _ _ RB; have r3 := cell_of_row w2 _ 3 _ _ _ RB; have f3 := frozen_of_row w2 _ 3 _ _ RB
      simp at r0 r1 r2 r3
      have HRB := Lib.hid RB
      clear RB
      go_wp2
      refine bodyPost_ret (results_cell_row rfl _ _ _ _ _ (0, 0) _ rfl (set4_block HRB.out _ _ _ _) Try.underlying48 rfl (by kernel_rfl)) rfl ?_
      rw [HA.out]
      exact pa_box HRB.out (by omega) (FIN.out _ B2.out) (ep5 3) (OR.void _ _) (OR.void _ _)
  obtain ⟨m, rfl⟩ : ∃ m : Nat, t = m := ⟨t.toNat, by omega⟩
  have HT := Lib.hid (show m ≤ 200 by omega)
  have HA : Hid (picks5 b xs m = pks5 m [] b xs) := by show _ = _; unfold picks5; rw [if_neg (by rw [HK.out]; decide), if_neg (by omega)]; rfl
  have t0 : ¬ (m : Int) < 0 := by omega
  have t1 : ¬ (200 : Int) < (m : Int) := by omega
  clear ht
  have CP : Hid (∀ W, Below w2.heap.size w2 W → Calls Try.prog 72 #[.slice AA n c] W fun e w' => ∃ A' c', e = .returned (.slice A' n c') ∧ OR 52 3 w' w2.heap.size A' n c' (fl xs) ∧ Below w2.heap.size w2 w' ∧ Below W.heap.size W w') := fun W hW =>
    (cloneA_any lo (min hi w.heap.size) AA n c xs W (by have := HR.out.len; have := HN.out; omega) HN.out.symm (by have := (H1.out.below (B2.out.trans (hW.mono B2.out.size)) (by have := Z1.out; omega)); rw [← HN.out] at this; exact this)).mono fun e w' ⟨A', c', h1, h2, h3⟩ => ⟨A', c', h1, OR.mono h2 hW.size, hW.trans (h3.mono hW.size), h3⟩
  go_upto_region 6 with (fail)
  go_cut [6] from 21 (fun x6 wx => ∃ (O : Nat) (A0 : Option Addr) (c0 : Nat), x6 = .pointer (some ⟨O, 0, none⟩) ∧ wx.heap[O]? = some (.cells #[.int .i64 0, .slice none 0 0, .int .i64 b, .slice A0 n c0] 48 (0, 0)) ∧ w2.heap.size ≤ O ∧ OR 52 3 wx w2.heap.size A0 n c0 (fl xs) ∧ Below w2.heap.size w2 wx)
  case first => as_aux_lemma =>
    refine wp_region_held_drew (S := fun W => W.cell? ⟨w.heap.size, 0, none⟩ = some (.int .i64 b) ∧ W.cell? ⟨w.heap.size, 1, none⟩ = some (.slice AA n c)) (by kernel_rfl) (KS.out _ (B2.out.trans (((Below.refl _ _).drew).mono B2.out.size))) (fun hHeld => ?_)
    obtain ⟨v0, hv0⟩ : ∃ v0, v0 = w2.drew := ⟨_, rfl⟩
    have BL0 : Hid (Below w2.heap.size w2 v0) := by rw [hv0]; exact Below.drew (Below.refl _ _)
    rw [← hv0] at hHeld ⊢
    clear hv0
    refine tkH 0 ?_ rfl ?_ hHeld ?_; rotate_left; (intro w hSw; (try dsimp only at hSw); go_simp; try with_reducible rfl); try simp only [Act.put, zz1, zz2, zz3, zz4, zz5, zz6]
    refine tkH 1 ?_ rfl ?_ hHeld ?_; rotate_left; (intro w hSw; (try dsimp only at hSw); go_simp; try with_reducible rfl); try simp only [Act.put, zz1, zz2, zz3, zz4, zz5, zz6]
    refine tkH 2 ?_ rfl ?_ hHeld ?_; rotate_left; (intro w hSw; (try dsimp only at hSw); go_simp; try with_reducible rfl); try simp only [Act.put, zz1, zz2, zz3, zz4, zz5, zz6]
    refine tkH 3 ?_ rfl ?_ hHeld ?_; rotate_left; (intro w hSw; (try dsimp only at hSw); go_simp; try with_reducible rfl); try simp only [Act.put, zz1, zz2, zz3, zz4, zz5, zz6]
    refine wpAnyH_ready (rs := [4, 7]) (by kernel_rfl) (by simp) ?_
    refine AllReadyH.cons (o := _) rfl (fun K0 hK0 => ?_) (AllReadyH.cons (o := _) rfl (fun K0 hK0 => ?_) AllReadyH.nil)
    · go_simp
      refine (CP.out _ BL0.out).mono ?_
      rintro e9 v1 ⟨A0, c0, rfl, ho, hb, hbb⟩
      go_wp2_with fail
      have BK := Lib.hid hb
      have OW := Lib.hid ho
      clear ho hb hbb
      refine hK0.out _ _ (KS.out _ (B2.out.trans ((BK.out).mono B2.out.size))) (fun hHeld => ?_)
      clear hK0 K0
      try simp only [Act.put, zz1, zz2, zz3, zz4, zz5, zz6]
      refine tkH 5 ?_ rfl ?_ hHeld ?_; rotate_left; (intro w hSw; (try dsimp only at hSw); go_simp; try with_reducible rfl); try simp only [Act.put, zz1, zz2, zz3, zz4, zz5, zz6]
      refine tkH 6 ?_ rfl ?_ hHeld ?_; rotate_left; (intro w hSw; (try dsimp only at hSw); go_simp; try with_reducible rfl); try simp only [Act.put, zz1, zz2, zz3, zz4, zz5, zz6]
      refine wpAnyH_ready (rs := [7]) (by kernel_rfl) (by simp) ?_
      refine AllReadyH.cons (o := _) rfl (fun K0 hK0 => ?_) AllReadyH.nil
      go_simp
      refine hK0.out _ _ (KS.out _ (B2.out.trans ((BK.out.alloc BK.out.size _).mono B2.out.size))) (fun hHeld => ?_)
      clear hK0 K0
      try simp only [Act.put, zz1, zz2, zz3, zz4, zz5, zz6]
      refine wpAnyH_ready (rs := [8]) (by kernel_rfl) (by simp) ?_
      refine AllReadyH.cons (o := _) rfl (fun K0 hK0 => ?_) AllReadyH.nil
      clear hHeld
      rw [if_pos (by rfl)]
      refine wp_store_row 48 _ _ rfl (v1.heap.size) _ rfl rfl 48 _ (heap_alloc_new _ _) (by kernel_rfl) rfl (by simp [Value.oneCell']) ?_
      refine hK0.out _ _ (KS.out _ (B2.out.trans ((below_setRow (BK.out.alloc BK.out.size _) BK.out.size _).mono B2.out.size))) (fun hHeld => ?_)
      clear hK0 K0
      try simp only [Act.put, zz1, zz2, zz3, zz4, zz5, zz6]
      refine wpAnyH_done (by kernel_rfl) ?_ _
      go_wp2_with fail
      go_meet
      case rel => exact ⟨v1.heap.size, A0, c0, rfl, setRow_heap _ _ _ _ _ _ (heap_alloc_new _ _), BK.out.size, OR.rowOther (OR.alloc OW.out _) (heap_alloc_new _ _) (by decide) _, below_setRow (BK.out.alloc BK.out.size _) BK.out.size _⟩
    · go_simp
      have ZB0 := Lib.hid (show w2.heap.size ≤ v0.heap.size from BL0.out.size)
      refine hK0.out _ _ (KS.out _ (B2.out.trans ((BL0.out.alloc BL0.out.size _).mono B2.out.size))) (fun hHeld => ?_)
      clear hK0 K0
      try simp only [Act.put, zz1, zz2, zz3, zz4, zz5, zz6]
      refine wpAnyH_ready (rs := [4]) (by kernel_rfl) (by simp) ?_
      refine AllReadyH.cons (o := _) rfl (fun K0 hK0 => ?_) AllReadyH.nil
      go_simp
      refine (CP.out _ (BL0.out.alloc BL0.out.size _)).mono ?_
      rintro e9 v1 ⟨A0, c0, rfl, ho, hb, hbb⟩
      go_wp2_with fail
      have BK := Lib.hid hb
      have OW := Lib.hid ho
      have ZB := Lib.hid ((hbb.block v0.heap.size (by simp)).trans (heap_alloc_new v0 _))
      clear ho hb hbb
      refine hK0.out _ _ (KS.out _ (B2.out.trans ((BK.out).mono B2.out.size))) (fun hHeld => ?_)
      clear hK0 K0
      try simp only [Act.put, zz1, zz2, zz3, zz4, zz5, zz6]
      refine tkH 5 ?_ rfl ?_ hHeld ?_; rotate_left; (intro w hSw; (try dsimp only at hSw); go_simp; try with_reducible rfl); try simp only [Act.put, zz1, zz2, zz3, zz4, zz5, zz6]
      refine tkH 6 ?_ rfl ?_ hHeld ?_; rotate_left; (intro w hSw; (try dsimp only at hSw); go_simp; try with_reducible rfl); try simp only [Act.put, zz1, zz2, zz3, zz4, zz5, zz6]
      refine wpAnyH_ready (rs := [8]) (by kernel_rfl) (by simp) ?_
      refine AllReadyH.cons (o := _) rfl (fun K0 hK0 => ?_) AllReadyH.nil
      clear hHeld
      rw [if_pos (by rfl)]
      refine wp_store_row 48 _ _ rfl (v0.heap.size) _ rfl rfl 48 _ ZB.out (by kernel_rfl) rfl (by simp [Value.oneCell']) ?_
      refine hK0.out _ _ (KS.out _ (B2.out.trans ((below_setRow BK.out ZB0.out _).mono B2.out.size))) (fun hHeld => ?_)
      clear hK0 K0
      try simp only [Act.put, zz1, zz2, zz3, zz4, zz5, zz6]
      refine wpAnyH_done (by kernel_rfl) ?_ _
      go_wp2_with fail
      go_meet
      case rel => exact ⟨v0.heap.size, A0, c0, rfl, setRow_heap _ _ _ _ _ _ ZB.out, ZB0.out, OR.rowOther OW.out ZB.out (by decide) _, below_setRow BK.out ZB0.out _⟩
  case rest => as_aux_lemma =>
  obtain ⟨w5, hw5⟩ : ∃ w5, w5 = wc := ⟨_, rfl⟩
  subst hw5
  obtain ⟨O, A0, c0, rfl, hk5, hz5, ho5, hb5⟩ := hcut
  have K5 := Lib.hid hk5; have ZO := Lib.hid (Nat.le_trans B2.out.size hz5); have O5 := Lib.hid (OR.mono ho5 B2.out.size); have B5 := Lib.hid (B2.out.trans (hb5.mono B2.out.size))
  clear hk5 hz5 ho5 hb5 CP t0 t1
  obtain ⟨i0, hi0, hz0, hz1, hz2⟩ := info_parts Try.info_i64
  go_wp2_with fail
  go_loopw [] (fun wr => QRound w1 wr O m (picks5 b xs m)) (fun wr => todo5 O m wr)
  case atStart =>
    refine qround_mk m [] b xs none 0 A0 c0 (by simp) ?_ (OR.void _ _) ?_ HK.out HA.out.symm B5.out
    · rw [← HN.out]; exact K5.out
    · rw [← HN.out]; exact O5.out
  case round =>
    obtain ⟨k, is, bb, ys, I, d, A', c', hsz, hbx, hoi, hoa, hsf, hgo, hbw⟩ := hrel
    have XB := Lib.hid hbx; have OI := Lib.hid hoi; have OA := Lib.hid hoa; have SF := Lib.hid hsf; have GO := Lib.hid hgo; have BW := Lib.hid hbw
    have SZ := Lib.hid hsz
    have TD := Lib.hid (todo5_of (m := m) hbx)
    have s1 := cell_of_row wr _ 1 _ _ _ hbx; have s2 := cell_of_row wr _ 2 _ _ _ hbx; have s3 := cell_of_row wr _ 3 _ _ _ hbx
    simp at s1 s2 s3
    clear hbx hoi hoa hsf hgo hbw hsz K5 O5 B5 A0 c0
    by_cases hlt : 0 < k
    · obtain ⟨k, rfl⟩ : ∃ j, k = j + 1 := ⟨k - 1, by omega⟩
      have ar : (is.length : Int) < (m : Int) := by have := SZ.out; omega
      have PI := Lib.hid (implPickSched_any w1.heap.size wr.heap.size A' c' bb ys wr (by have := (sf5_zero SF.out).2.2.1.len; omega) (OR.sl0 OA.out))
      rw [pick5_eq SF.out] at PI
      by_cases hq : pq5 bb ys = 0
      rotate_left
      · rw [if_neg hq] at PI
        have HC : Hid (picks5 b xs m = ep5 (pq5 bb ys)) := by
          show _ = _
          rw [← GO.out]
          unfold pks5
          rw [if_neg hq]
        have hq2 : (pq5 bb ys != 0) = true := by simpa using hq
        generalize pq5 bb ys = q at *
        go_wp2_with fail
        refine PI.out.mono ?_
        rintro e w3 ⟨A9, c9, rfl, ho, hb⟩
        clear PI
        have e5q : (e5 q).1 = q := rfl
        obtain ⟨w4, hw4⟩ : ∃ w4, w4 = w3.alloc (.cells #[.int .i64 q, .int .i64 (e5 q).2.1, .int .i64 (e5 q).2.2.1, .int .i64 (e5 q).2.2.2.1, .slice A9 (e5 q).2.2.2.2.length c9] 56) := ⟨_, rfl⟩
        obtain ⟨g8, hg8⟩ : ∃ g, g = w3.heap.size := ⟨_, rfl⟩
        have NB4 : Hid (Below wr.heap.size wr w4) := by rw [hw4]; exact hb.alloc hb.size _
        have X8 : Hid (w4.heap[g8]? = some (.cells #[.int .i64 q, .int .i64 (e5 q).2.1, .int .i64 (e5 q).2.2.1, .int .i64 (e5 q).2.2.2.1, .slice A9 (e5 q).2.2.2.2.length c9] 56 (0, 0))) := by show _ = _; rw [hw4, hg8]; exact heap_alloc_new w3 _
        have B4 := Lib.hid (BW.out.trans (NB4.out.mono BW.out.size))
        have HW4 := Lib.hid hw4
        clear hw4 ho hb
        go_upto_region 9 with (fail)
        rw [← HW4.out, ← hg8]
        clear HW4 hg8 s1 s2 s3
        have e0 := cell_of_row w4 _ 0 _ _ _ X8.out
        simp at e0
        have RB := KR.out w4 B4.out
        have r0 := cell_of_row w4 _ 0 _ _ _ RB; have f0 := frozen_of_row w4 _ 0 _ _ RB; have r1 := cell_of_row w4 _ 1 _ _ _ RB; have f1 := frozen_of_row w4 _ 1 _ _ RB; have r2 := cell_of_row w4 _ 2 _ _ _ RB; have f2 := frozen_of_row w4 _ 2 _ _ RB; have r3 := cell_of_row w4 _ 3 _ _ _ RB; have f3 := frozen_of_row w4 _ 3 _ _ RB
        simp at r0 r1 r2 r3
        have HRB := Lib.hid RB
        clear RB
        go_wp2
        refine bodyPost_ret (results_cell_row rfl _ _ _ _ _ (0, 0) _ rfl (set4_block HRB.out _ _ _ _) Try.underlying48 rfl (by kernel_rfl)) rfl ?_
        rw [HC.out]
        exact pa_box HRB.out (by omega) (FIN.out _ B4.out) (ep5 q) (OR.void _ _) (OR.void _ _)
      have GN : Hid (pks5 k (is ++ [(lst ys).1.1]) (nb5 bb ys) (ny5 ys) = picks5 b xs m) := by
        show _ = _
        rw [← GO.out]
        conv => rhs; unfold pks5
        rw [if_pos hq]
      have SN := Lib.hid (pick_next SF.out hq)
      rw [if_pos hq] at PI
      clear hq
      generalize ny5 ys = zs at *
      generalize nb5 bb ys = nb at *
      generalize (lst ys).1.1 = id5 at *
      go_wp2_with fail
      refine PI.out.mono ?_
      rintro e w3 ⟨A9, c9, rfl, ho, hb⟩
      clear PI
      have ho : OR 52 3 w3 wr.heap.size A9 zs.length c9 (fl zs) := ho
      obtain ⟨w4, hw4⟩ : ∃ w4, w4 = w3.alloc (.cells #[.int .i64 0, .int .i64 id5, .int .i64 0, .int .i64 nb, .slice A9 zs.length c9] 56) := ⟨_, rfl⟩
      obtain ⟨g8, hg8⟩ : ∃ g, g = w3.heap.size := ⟨_, rfl⟩
      have NB4 : Hid (Below wr.heap.size wr w4) := by rw [hw4]; exact hb.alloc hb.size _
      have X8 : Hid (w4.heap[g8]? = some (.cells #[.int .i64 0, .int .i64 id5, .int .i64 0, .int .i64 nb, .slice A9 zs.length c9] 56 (0, 0))) := by show _ = _; rw [hw4, hg8]; exact heap_alloc_new w3 _
      have OA4 : Hid (OR 52 3 w4 w1.heap.size A9 zs.length c9 (fl zs)) := by rw [hw4]; exact OR.alloc (OR.mono ho BW.out.size) _
      have OI4 : Hid (OR 2 1 w4 w1.heap.size I is.length d is) := OR.below OI.out NB4.out (Nat.le_refl _)
      have XO4 := Lib.hid ((NB4.out.block O (Array.getElem?_eq_some_iff.1 XB.out).1).trans XB.out)
      have B4 := Lib.hid (BW.out.trans (NB4.out.mono BW.out.size))
      have NE8 := Lib.hid (show O ≠ g8 by have := (Array.getElem?_eq_some_iff.1 XB.out).1; have := hb.size; omega)
      have HW4 := Lib.hid hw4
      clear hw4 ho hb
      go_upto_region 9 with (fail)
      rw [← HW4.out, ← hg8]
      clear HW4 hg8 s1 s2 s3
      have e0 := cell_of_row w4 _ 0 _ _ _ X8.out; have e1 := cell_of_row w4 _ 1 _ _ _ X8.out
      have x1 := cell_of_row w4 _ 1 _ _ _ XO4.out
      simp at e0 e1 x1
      have O6 : Hid (OR 2 1 (w4.alloc (.cells #[.int .i64 id5] 2)) w1.heap.size I is.length d is) := OR.alloc OI4.out _
      have A6 : Hid (OR 52 3 (w4.alloc (.cells #[.int .i64 id5] 2)) w1.heap.size A9 zs.length c9 (fl zs)) := OR.alloc OA4.out _
      have X6 : Hid ((w4.alloc (.cells #[.int .i64 id5] 2)).heap[O]? = some (.cells #[.int .i64 0, .slice I is.length d, .int .i64 bb, .slice A' ys.length c'] 48 (0, 0))) := ((below_new w4 _).block O (Array.getElem?_eq_some_iff.1 XO4.out).1).trans XO4.out
      have E6 : Hid ((w4.alloc (.cells #[.int .i64 id5] 2)).heap[g8]? = some (.cells #[.int .i64 0, .int .i64 id5, .int .i64 0, .int .i64 nb, .slice A9 zs.length c9] 56 (0, 0))) := ((below_new w4 _).block g8 (Array.getElem?_eq_some_iff.1 X8.out).1).trans X8.out
      have B6 : Hid (Below w1.heap.size w1 (w4.alloc (.cells #[.int .i64 id5] 2))) := B4.out.alloc B4.out.size _
      have NW := Lib.hid (one_new6 w4 id5)
      go_upto_region 12 with (at_builtin; refine wpList_append_own _ rfl (.tmp 43) (.tmp 46) 46 rfl w1.heap.size 2 i0 (.int .i64 0) 1 8 Try.underlying46 hi0 hz0 hz1 hz2 rfl (by decide) (.slice I is.length d) is.length (vals is) rfl O6.out ⟨w4.heap.size, 0, none⟩ 1 1 [.int .i64 id5] rfl rfl NW.out (by simp [Value.oneCell']) (by have := SZ.out; have := HT.out; unfold maxLen; omega) (by have := SZ.out; have := HT.out; omega) B6.out.size ?_; intro v7 w7 hown hgrow hat; obtain ⟨I7, d7, rfl, ho7⟩ := row_more6 hown; have OI7 := Lib.hid ho7; have OA7 := Lib.hid (OR.grownOther5 A6.out O6.out (by decide) hgrow); have K7 := Lib.hid ((hgrow.block O (Array.getElem?_eq_some_iff.1 X6.out).1 (own_ne_any5 O6.out X6.out (by decide))).trans X6.out); have E7 := Lib.hid ((hgrow.block g8 (Array.getElem?_eq_some_iff.1 E6.out).1 (own_ne_any5 O6.out E6.out (by decide))).trans E6.out); have B7 := Lib.hid (below_append B6.out B6.out.size O6.out hgrow); have y1 := cell_of_row w7 _ 1 _ _ _ K7.out; have f7 := frozen_of_row w7 _ 1 _ _ K7.out; simp at y1; clear hown hgrow hat ho7)
      obtain ⟨w8, hw8⟩ : ∃ w8, w8 = w7.setCell ⟨O, 1, none⟩ (.slice I7 (is.length + 1) d7) := ⟨_, rfl⟩
      rw [← hw8]
      have K8 : Hid (w8.heap[O]? = some (.cells #[.int .i64 0, .slice I7 (is.length + 1) d7, .int .i64 bb, .slice A' ys.length c'] 48 (0, 0))) := by show _ = _; rw [hw8]; exact heap_setCell_same _ _ 1 _ _ _ K7.out
      have E8 : Hid (w8.heap[g8]? = some (.cells #[.int .i64 0, .int .i64 id5, .int .i64 0, .int .i64 nb, .slice A9 zs.length c9] 56 (0, 0))) := by show _ = _; rw [hw8, Below.heap_setCell _ _ _ _ (by simp; have := NE8.out; omega)]; exact E7.out
      have OI8 : Hid (OR 2 1 w8 w1.heap.size I7 (is.length + 1) d7 (is ++ [id5])) := by rw [hw8]; exact OR.setOther OI7.out K7.out (by decide) 1 _
      have OA8 : Hid (OR 52 3 w8 w1.heap.size A9 zs.length c9 (fl zs)) := by rw [hw8]; exact OR.setOther OA7.out K7.out (by decide) 1 _
      have B8 : Hid (Below w1.heap.size w1 w8) := by rw [hw8]; exact B7.out.setCell (p := ⟨O, 1, none⟩) ZO.out _
      clear hw8 y1 f7 K7 E7 OI7 OA7 B7 e0 e1 x1
      have e3 := cell_of_row w8 _ 3 _ _ _ E8.out; have e4 := cell_of_row w8 _ 4 _ _ _ E8.out
      have x2 := cell_of_row w8 _ 2 _ _ _ K8.out; have x3 := cell_of_row w8 _ 3 _ _ _ K8.out; have f2 := frozen_of_row w8 _ 2 _ _ K8.out; have f3 := frozen_of_row w8 _ 3 _ _ K8.out
      simp at e3 e4 x2 x3
      have Y1 := Lib.hid (heap_setCell_same w8 O 2 _ _ (.int .i64 nb) K8.out)
      go_wp2
      go_roundw
      case rel =>
        have e9 : (is ++ [id5]).length = is.length + 1 := by simp
        refine qround_mk k (is ++ [id5]) nb zs I7 d7 A9 c9 (by rw [e9]; have := SZ.out; omega) ?_ ?_ ?_ SN.out GN.out ((B8.out.setCell (p := ⟨O, 2, none⟩) ZO.out _).setCell (p := ⟨O, 3, none⟩) ZO.out _)
        · rw [e9]; exact heap_setCell_same _ _ 3 _ _ _ Y1.out
        · rw [e9]; exact OR.setOther (OR.setOther OI8.out K8.out (by decide) 2 _) Y1.out (by decide) 3 _
        · exact OR.setOther (OR.setOther OA8.out K8.out (by decide) 2 _) Y1.out (by decide) 3 _
      case measure =>
        rw [TD.out, todo5_of (heap_setCell_same _ _ 3 _ _ _ Y1.out)]
        have := SZ.out
        omega
    · obtain rfl : k = 0 := by omega
      have ar : ¬ (is.length : Int) < (m : Int) := by have := SZ.out; omega
      have HC : Hid (picks5 b xs m = (0, is, bb, ys)) := by show _ = _; rw [← GO.out]; rfl
      have s0 := cell_of_row wr _ 0 _ _ _ XB.out
      simp at s0
      have RB := KR.out wr BW.out
      have r0 := cell_of_row wr _ 0 _ _ _ RB; have f0 := frozen_of_row wr _ 0 _ _ RB; have r1 := cell_of_row wr _ 1 _ _ _ RB; have f1 := frozen_of_row wr _ 1 _ _ RB; have r2 := cell_of_row wr _ 2 _ _ _ RB; have f2 := frozen_of_row wr _ 2 _ _ RB; have r3 := cell_of_row wr _ 3 _ _ _ RB; have f3 := frozen_of_row wr _ 3 _ _ RB
      simp at r0 r1 r2 r3
      have HRB := Lib.hid RB
      clear RB
      go_wp2
      refine bodyPost_ret (results_cell_row rfl _ _ _ _ _ (0, 0) _ rfl (set4_block HRB.out _ _ _ _) Try.underlying48 rfl (by kernel_rfl)) rfl ?_
      rw [HC.out]
      exact pa_box HRB.out (by omega) (FIN.out _ BW.out) ((0, is, bb, ys)) (OR.mono OI.out (by have := Z1.out; omega)) (OR.mono OA.out (by have := Z1.out; omega))

end Go.Proofs.Ytckapndpefkcgaa
