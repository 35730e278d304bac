/-
  The model's l5Copy, of any list that stands somewhere; its l5Copy, l5Picks and l5Pick of a schedule that lies in an answer's box. No conditions beyond that the list can be read.
-/
import Derived.Test.YtckapndpefkcgaaMath5c
import Derived.Test.YtckapndpefkcgaaRow6
set_option maxHeartbeats 1000000
namespace Go.Proofs.Ytckapndpefkcgaa
open Go.RowKit
set_option maxRecDepth 100000

set_option maxHeartbeats 8000000 in
theorem l5CopyE_any (ad : Addr) (c s0 : Nat) (b : Int) (w : World)
    (hs : w.heap[s0]? = some (.cells #[.int .i64 b, .slice (some ad) 0 c] 43 (0, 0))) :
    Calls Try.prog 74 #[.pointer (some ⟨s0, 0, none⟩)] w fun e w' => ∃ A' c', e = .returned (.agg #[.int .i64 b, .slice A' 0 c']) ∧ OR 52 3 w' w.heap.size A' 0 c' [] ∧ Below w.heap.size w w' := by
  have S0 := Lib.hid (Array.getElem?_eq_some_iff.1 hs).1
  have KS : Hid (∀ W, Below w.heap.size w W → W.cell? ⟨s0, 0, none⟩ = some (.int .i64 b) ∧ W.cell? ⟨s0, 1, none⟩ = some (.slice (some ad) 0 c)) := fun W hW => by
    have j := (hW.block s0 S0.out).trans hs
    exact ⟨cell_of_row W _ 0 _ _ _ j, cell_of_row W _ 1 _ _ _ j⟩
  obtain ⟨w1, hw1⟩ : ∃ w1, w1 = w.alloc (.cells #[.int .i64 0, .slice none 0 0] 43) := ⟨_, rfl⟩
  have K1 : Hid (w1.heap[w.heap.size]? = some (.cells #[.int .i64 0, .slice none 0 0] 43 (0, 0))) := by show _ = _; rw [hw1]; exact heap_alloc_new w _
  have B1 : Hid (Below w.heap.size w w1) := by rw [hw1]; exact below_new w _
  have Z1 : Hid (w1.heap.size = w.heap.size + 1) := by show _ = _; rw [hw1]; simp
  have HW1 := Lib.hid hw1
  obtain ⟨q0, q1⟩ := KS.out w1 B1.out
  obtain ⟨t0, t1⟩ := KS.out (w1.alloc (.cells #[] 52)) (B1.out.alloc (by have := Z1.out; omega) _)
  obtain ⟨w7, hw7⟩ : ∃ w7, w7 = w1.alloc (.cells #[] 52) := ⟨_, rfl⟩
  have OE : Hid (OR 52 3 w7 w.heap.size (some ⟨w1.heap.size, 0, none⟩) 0 0 []) := by rw [hw7]; exact OR.empty w1 (by have := Z1.out; omega)
  have B7 : Hid (Below w.heap.size w w7) := by rw [hw7]; exact B1.out.alloc (by have := Z1.out; omega) _
  have K7 : Hid (w7.heap[w.heap.size]? = some (.cells #[.int .i64 0, .slice none 0 0] 43 (0, 0))) := by show _ = _; rw [hw7]; exact ((below_new w1 (.cells #[] 52)).block w.heap.size (by have := Z1.out; omega)).trans K1.out
  have KE : Hid ((w1.alloc (.cells #[] 52)).heap[w.heap.size]? = some (.cells #[.int .i64 0, .slice none 0 0] 43 (0, 0))) := ((below_new w1 (.cells #[] 52)).block w.heap.size (by have := Z1.out; omega)).trans K1.out
  have y0 := cell_of_row _ _ 0 _ _ _ KE.out; have y1 := cell_of_row _ _ 1 _ _ _ KE.out; have f0 := frozen_of_row _ _ 0 _ _ KE.out; have f1 := frozen_of_row _ _ 1 _ _ KE.out
  simp only [List.getElem?_cons_zero, List.getElem?_cons_succ, List.getElem?_toArray] at y0 y1
  clear hw1 hs
  go_enter Try.func74, Try.ntmps74
  go_upto_region 1 with (fail)
  rw [← HW1.out]
  clear HW1
  go_region
  all_goals
    rw [← hw7]
    go_wp2
    refine bodyPost_ret (results_cell_row rfl _ _ w.heap.size _ _ (0, 0) _ rfl (heap_setCell_same _ _ 1 _ _ _ (heap_setCell_same _ _ 0 _ _ _ K7.out)) Try.underlying43 rfl (by kernel_rfl)) rfl ?_
    refine ⟨_, _, rfl, ?_, ((B7.out.setCell (p := ⟨w.heap.size, 0, none⟩) (Nat.le_refl _) _).setCell (p := ⟨w.heap.size, 1, none⟩) (Nat.le_refl _) _).drew⟩
    exact OR.drewN (OR.setOther (OR.setOther OE.out K7.out (by decide) 0 _) (heap_setCell_same _ _ 0 _ _ _ K7.out) (by decide) 1 _) 1

set_option maxHeartbeats 8000000 in
theorem l5CopyN_any (c s0 : Nat) (b : Int) (w : World)
    (hs : w.heap[s0]? = some (.cells #[.int .i64 b, .slice none 0 c] 43 (0, 0))) :
    Calls Try.prog 74 #[.pointer (some ⟨s0, 0, none⟩)] w fun e w' => ∃ A' c', e = .returned (.agg #[.int .i64 b, .slice A' 0 c']) ∧ OR 52 3 w' w.heap.size A' 0 c' [] ∧ Below w.heap.size w w' := by
  have S0 := Lib.hid (Array.getElem?_eq_some_iff.1 hs).1
  have KS : Hid (∀ W, Below w.heap.size w W → W.cell? ⟨s0, 0, none⟩ = some (.int .i64 b) ∧ W.cell? ⟨s0, 1, none⟩ = some (.slice none 0 c)) := fun W hW => by
    have j := (hW.block s0 S0.out).trans hs
    exact ⟨cell_of_row W _ 0 _ _ _ j, cell_of_row W _ 1 _ _ _ j⟩
  obtain ⟨w1, hw1⟩ : ∃ w1, w1 = w.alloc (.cells #[.int .i64 0, .slice none 0 0] 43) := ⟨_, rfl⟩
  have K1 : Hid (w1.heap[w.heap.size]? = some (.cells #[.int .i64 0, .slice none 0 0] 43 (0, 0))) := by show _ = _; rw [hw1]; exact heap_alloc_new w _
  have B1 : Hid (Below w.heap.size w w1) := by rw [hw1]; exact below_new w _
  have Z1 : Hid (w1.heap.size = w.heap.size + 1) := by show _ = _; rw [hw1]; simp
  have HW1 := Lib.hid hw1
  obtain ⟨q0, q1⟩ := KS.out w1 B1.out
  obtain ⟨t0, t1⟩ := KS.out (w1.alloc (.cells #[] 52)) (B1.out.alloc (by have := Z1.out; omega) _)
  obtain ⟨w7, hw7⟩ : ∃ w7, w7 = w1.alloc (.cells #[] 52) := ⟨_, rfl⟩
  have OE : Hid (OR 52 3 w7 w.heap.size (some ⟨w1.heap.size, 0, none⟩) 0 0 []) := by rw [hw7]; exact OR.empty w1 (by have := Z1.out; omega)
  have B7 : Hid (Below w.heap.size w w7) := by rw [hw7]; exact B1.out.alloc (by have := Z1.out; omega) _
  have K7 : Hid (w7.heap[w.heap.size]? = some (.cells #[.int .i64 0, .slice none 0 0] 43 (0, 0))) := by show _ = _; rw [hw7]; exact ((below_new w1 (.cells #[] 52)).block w.heap.size (by have := Z1.out; omega)).trans K1.out
  have KE : Hid ((w1.alloc (.cells #[] 52)).heap[w.heap.size]? = some (.cells #[.int .i64 0, .slice none 0 0] 43 (0, 0))) := ((below_new w1 (.cells #[] 52)).block w.heap.size (by have := Z1.out; omega)).trans K1.out
  have y0 := cell_of_row _ _ 0 _ _ _ KE.out; have y1 := cell_of_row _ _ 1 _ _ _ KE.out; have f0 := frozen_of_row _ _ 0 _ _ KE.out; have f1 := frozen_of_row _ _ 1 _ _ KE.out
  simp only [List.getElem?_cons_zero, List.getElem?_cons_succ, List.getElem?_toArray] at y0 y1
  clear hw1 hs
  go_enter Try.func74, Try.ntmps74
  go_upto_region 1 with (fail)
  rw [← HW1.out]
  clear HW1
  go_region
  all_goals
    rw [← hw7]
    go_wp2
    refine bodyPost_ret (results_cell_row rfl _ _ w.heap.size _ _ (0, 0) _ rfl (heap_setCell_same _ _ 1 _ _ _ (heap_setCell_same _ _ 0 _ _ _ K7.out)) Try.underlying43 rfl (by kernel_rfl)) rfl ?_
    refine ⟨_, _, rfl, ?_, ((B7.out.setCell (p := ⟨w.heap.size, 0, none⟩) (Nat.le_refl _) _).setCell (p := ⟨w.heap.size, 1, none⟩) (Nat.le_refl _) _).drew⟩
    exact OR.drewN (OR.setOther (OR.setOther OE.out K7.out (by decide) 0 _) (heap_setCell_same _ _ 0 _ _ _ K7.out) (by decide) 1 _) 1

set_option maxHeartbeats 8000000 in
theorem l5Copy0_any (lo hi : Nat) (ad : Addr) (c s0 : Nat) (b : Int) (xs : List R3) (w : World) (hl : xs.length ≤ 5) (h : RS w lo hi (some ad) xs)
    (hs : w.heap[s0]? = some (.cells #[.int .i64 b, .slice (some ad) xs.length c] 43 (0, 0))) :
    Calls Try.prog 74 #[.pointer (some ⟨s0, 0, none⟩)] w fun e w' => ∃ A' c', e = .returned (.agg #[.int .i64 b, .slice A' xs.length c']) ∧ OR 52 3 w' w.heap.size A' xs.length c' (fl xs) ∧ Below w.heap.size w w' := by
  by_cases h0 : 0 < xs.length
  · exact l5Copy_any lo hi (some ad) c s0 b xs w hl h0 h hs
  · obtain rfl : xs = [] := List.length_eq_zero_iff.1 (by omega)
    exact l5CopyE_any ad c s0 b w hs

theorem l5CopyA_any (lo hi : Nat) (AA : Option Addr) (c s0 : Nat) (b : Int) (xs : List R3) (w : World) (hl : xs.length ≤ 5) (h : RS w lo hi AA xs)
    (hs : w.heap[s0]? = some (.cells #[.int .i64 b, .slice AA xs.length c] 43 (0, 0))) :
    Calls Try.prog 74 #[.pointer (some ⟨s0, 0, none⟩)] w fun e w' => ∃ A' c', e = .returned (.agg #[.int .i64 b, .slice A' xs.length c']) ∧ OR 52 3 w' w.heap.size A' xs.length c' (fl xs) ∧ Below w.heap.size w w' := by
  rcases AA with _ | ad
  · have h0 : xs.length = 0 := by
      rcases Nat.eq_zero_or_pos xs.length with e | e
      · exact e
      · obtain ⟨_, _, e2, _⟩ := h 0 (by omega)
        cases e2
    obtain rfl : xs = [] := List.length_eq_zero_iff.1 h0
    exact l5CopyN_any c s0 b w hs
  · exact l5Copy0_any lo hi ad c s0 b xs w hl h hs

set_option maxHeartbeats 8000000 in
theorem l5Copy2_any {u0 u1 : Value} (lo hi : Nat) (A : Option Addr) (c s0 : Nat) (b : Int) (xs : List R3) (w : World) (hl : xs.length ≤ 5) (h0 : 0 < xs.length) (h : RS w lo hi A xs)
    (hs : w.heap[s0]? = some (.cells #[u0, u1, .int .i64 b, .slice A xs.length c] 48 (0, 0))) :
    Calls Try.prog 74 #[.pointer (some ⟨s0, 2, none⟩)] w fun e w' => ∃ A' c', e = .returned (.agg #[.int .i64 b, .slice A' xs.length c']) ∧ OR 52 3 w' w.heap.size A' xs.length c' (fl xs) ∧ Below w.heap.size w w' := by
  have H := Lib.hid h.lt
  obtain ⟨i0, hi0, hz0, hz1, hz2⟩ := info_parts infoReady
  obtain ⟨bb, off, rfl, e1, e2, hc⟩ := Sl.at_ H.out (show 0 < xs.length * 3 by omega)
  have hl3 : (fl xs).length = xs.length * 3 := fl_len xs
  have HC := Lib.hid hc
  have HH := Lib.hid e2
  have HL3 := Lib.hid hl3
  obtain ⟨n, hn'⟩ : ∃ n, n = xs.length := ⟨_, rfl⟩
  have HN := Lib.hid hn'
  rw [← hn'] at hs hl h0 ⊢
  have S0 := Lib.hid (Array.getElem?_eq_some_iff.1 hs).1
  have KS : Hid (∀ W, Below w.heap.size w W → W.cell? ⟨s0, 2, none⟩ = some (.int .i64 b) ∧ W.cell? ⟨s0, 3, none⟩ = some (.slice (some ⟨bb, off, none⟩) n c)) := fun W hW => by
    have j := (hW.block s0 S0.out).trans hs
    exact ⟨cell_of_row W _ 2 _ _ _ j, cell_of_row W _ 3 _ _ _ j⟩
  obtain ⟨w1, hw1⟩ : ∃ w1, w1 = w.alloc (.cells #[.int .i64 0, .slice none 0 0] 43) := ⟨_, rfl⟩
  have K1 : Hid (w1.heap[w.heap.size]? = some (.cells #[.int .i64 0, .slice none 0 0] 43 (0, 0))) := by show _ = _; rw [hw1]; exact heap_alloc_new w _
  have B1 : Hid (Below w.heap.size w w1) := by rw [hw1]; exact below_new w _
  have Z1 : Hid (w1.heap.size = w.heap.size + 1) := by show _ = _; rw [hw1]; simp
  have BE : Hid (Below w.heap.size w (w1.drew.alloc (.cells #[] 52))) := (B1.out.drew).alloc (by have := Z1.out; simp; omega) _
  have OW : Hid ((w1.drew.alloc (.cells #[] 52)).ownsRow (w.heap.size + 1) 52 3 (.slice (some ⟨w1.heap.size, 0, none⟩) 0 0) 0 []) :=
    ⟨rfl, .inr ⟨w1.heap.size, 0, #[], rfl, by have := Z1.out; omega, heap_alloc_new _ _, Nat.le_refl _, by simp [maxLen], rfl, rfl⟩⟩
  have NW : Hid (∀ j u, (vals (fl xs))[j]? = some u → (w1.drew.alloc (.cells #[] 52)).cell? ((⟨bb, off, none⟩ : Addr).add j) = some u) := by
    intro j u hu
    have hj : j < (fl xs).length := by have := (List.getElem?_eq_some_iff.1 hu).1; simpa [vals] using this
    rw [vals_get (fl xs) j hj] at hu
    injection hu with hu
    subst hu
    rw [Go.WideShapes.add_plain]
    exact (BE.out.cell (p := ⟨bb, off + j, none⟩) (by have := HH.out; simp; omega)).trans (HC.out j (by have := HL3.out; omega))
  have ON : Hid (∀ u ∈ vals (fl xs), u.oneCell' = true) := by
    intro u hu
    simp only [vals, List.mem_map] at hu
    obtain ⟨_, _, rfl⟩ := hu
    rfl
  have LN : Hid ((vals (fl xs)).length = n * 3) := by show _ = _; simp only [vals, List.length_map]; rw [HL3.out, ← HN.out]
  obtain ⟨q0, q1⟩ := KS.out w1 B1.out
  obtain ⟨t0, t1⟩ := KS.out (w1.alloc (.cells #[] 52)) (B1.out.alloc (by have := Z1.out; omega) _)
  have HW1 := Lib.hid hw1
  have K1E : Hid ((w1.drew.alloc (.cells #[] 52)).heap[w.heap.size]? = some (.cells #[.int .i64 0, .slice none 0 0] 43 (0, 0))) := ((below_new w1.drew (.cells #[] 52)).block w.heap.size (by have := Z1.out; show _ < w1.heap.size; omega)).trans K1.out
  clear hw1 hc e1 e2 hl3 hs hn' H h
  go_enter Try.func74, Try.ntmps74
  go_upto_region 1 with (fail)
  rw [← HW1.out]
  clear HW1
  go_region_law (refine step_append_lies _ rfl (.tmp 7) (.tmp 11) 41 rfl (w.heap.size + 1) 52 i0 (.agg #[.int .i64 0, .int .i64 0, .int .i64 0]) 3 24 Try.underlying41 hi0 hz0 hz1 hz2 rfl (by decide) (.slice (some ⟨w1.heap.size, 0, none⟩) 0 0) 0 [] rfl OW.out ⟨bb, off, none⟩ n c (vals (fl xs)) rfl LN.out NW.out ON.out (by omega) (by unfold maxLen; omega) (by omega) (by have := Z1.out; simp; omega) _ rfl ?_; intro g7 cap w7 hown hgrow hat hlt; have K7 := Lib.hid ((hgrow.block w.heap.size (Array.getElem?_eq_some_iff.1 K1E.out).1 (by intro e; have e' : w.heap.size = w1.heap.size := Option.some.inj e; have := Z1.out; omega)).trans K1E.out); have y0 := cell_of_row w7 _ 0 _ _ _ K7.out; have y1 := cell_of_row w7 _ 1 _ _ _ K7.out; have f0 := frozen_of_row w7 _ 0 _ _ K7.out; have f1 := frozen_of_row w7 _ 1 _ _ K7.out; simp at y0 y1; have HO7 := Lib.hid hown; have B7 := Lib.hid (BE.out.grown hgrow (by have := Z1.out; simp; omega) (fun k hk => by have e' : w1.heap.size = k := Option.some.inj hk; have := Z1.out; omega)); obtain ⟨v0, v1⟩ := KS.out w7 B7.out; clear hown hgrow hat hlt)
  all_goals
    have HO7 : Hid (OR 52 3 w7 (w.heap.size + 1) (some ⟨g7, 0, none⟩) n cap (fl xs)) := by
      have := HO7.out
      simp only [Nat.zero_add, List.nil_append] at this
      exact this
    go_wp2
    refine bodyPost_ret (results_cell_row rfl _ _ w.heap.size _ _ (0, 0) _ rfl (heap_setCell_same _ _ 1 _ _ _ (heap_setCell_same _ _ 0 _ _ _ K7.out)) Try.underlying43 rfl (by kernel_rfl)) rfl ?_
    refine ⟨some ⟨g7, 0, none⟩, cap, rfl, ?_, (B7.out.setCell (p := ⟨w.heap.size, 0, none⟩) (Nat.le_refl _) _).setCell (p := ⟨w.heap.size, 1, none⟩) (Nat.le_refl _) _⟩
    exact OR.mono (OR.setOther (OR.setOther HO7.out K7.out (by decide) 0 _) (heap_setCell_same _ _ 0 _ _ _ K7.out) (by decide) 1 _) (by omega)

set_option maxHeartbeats 8000000 in
theorem l5Pick2_any {u0 u1 : Value} (lo hi : Nat) (A : Option Addr) (c s0 : Nat) (b : Int) (xs : List R3) (w : World) (hr : Ris xs) (h0 : 0 < xs.length) (ho : anyTo xs.length (badR b xs) = false) (hb : 0 ≤ b ∧ b ≤ 10000000) (h : RS w lo hi A xs)
    (hs : w.heap[s0]? = some (.cells #[u0, u1, .int .i64 b, .slice A xs.length c] 48 (0, 0))) :
    Calls Try.prog 76 #[.pointer (some ⟨s0, 2, none⟩)] w fun e w' => ∃ A' c', e = .returned (.tuple #[.agg #[.int .i64 (bas (pk5 xs (nxt5 (lst xs).1)) b), .slice A' (pk5 xs (nxt5 (lst xs).1)).length c'], .int .i64 (lst xs).1.1]) ∧
      OR 52 3 w' w.heap.size A' (pk5 xs (nxt5 (lst xs).1)).length c' (fl (pk5 xs (nxt5 (lst xs).1))) ∧ Below w.heap.size w w' := by
  have HR := Lib.hid hr; have HO := Lib.hid ho; have HB := Lib.hid hb; have HL5 := Lib.hid hr.len
  have hPL : (pk5 xs (nxt5 (lst xs).1)).length = xs.length := by unfold pk5; simp
  rw [hPL]
  obtain ⟨w1, hw1⟩ : ∃ w1, w1 = w.alloc (.cells #[.int .i64 0, .slice none 0 0] 43) := ⟨_, rfl⟩
  have K1 : Hid (w1.heap[w.heap.size]? = some (.cells #[.int .i64 0, .slice none 0 0] 43 (0, 0))) := by show _ = _; rw [hw1]; exact heap_alloc_new w _
  have N1 : Below w.heap.size w w1 := by rw [hw1]; exact below_new w _
  have B1 := Lib.hid N1
  have Z1 : Hid (w1.heap.size = w.heap.size + 1) := by show _ = _; rw [hw1]; simp
  have CP := Lib.hid (l5Copy2_any lo (min hi w.heap.size) A c s0 b xs w1 hr.len h0 (Sl.below h.lt N1 (Nat.min_le_right _ _)) ((N1.block s0 (Array.getElem?_eq_some_iff.1 hs).1).trans hs))
  obtain ⟨n, hn'⟩ : ∃ n, n = xs.length := ⟨_, rfl⟩
  have HN := Lib.hid hn'
  have hn5 : n ≤ 5 := by have := HL5.out; omega
  have hn1 : 0 < n := by omega
  rw [← hn'] at CP ⊢
  have HW1 := Lib.hid hw1
  clear hr ho hb h hs hw1 N1 hn' h0 hPL
  go_enter Try.func76, Try.ntmps76
  go_upto_region 1 with (fail)
  rw [← HW1.out]
  clear HW1
  go_wp2_with fail
  refine CP.out.mono ?_
  rintro e w2 ⟨A', c', rfl, ho, hb⟩
  obtain ⟨g, rfl, g1, g2⟩ := ho.pos hn1
  obtain ⟨O, hO⟩ : ∃ O, O = w2.heap.size := ⟨_, rfl⟩
  obtain ⟨w3, hw3⟩ : ∃ w3, w3 = w2.alloc (.cells #[.int .i64 b, .slice (some ⟨g, 0, none⟩) n c'] 43) := ⟨_, rfl⟩
  have P3 : Hid (PS w w3 O g c' b n (fl xs)) := by
    have nb : Below w2.heap.size w2 w3 := by rw [hw3]; exact below_new w2 _
    refine ⟨?_, ?_, OR.mono (OR.below ho nb (Nat.le_refl _)) (by have := Z1.out; omega), (B1.out.trans (hb.mono B1.out.size)).trans (nb.mono (Nat.le_trans B1.out.size hb.size))⟩
    · rw [hw3, hO]; exact heap_alloc_new w2 _
    · exact (nb.block _ (by have := hb.size; have := Z1.out; omega)).trans ((hb.block _ (by have := Z1.out; omega)).trans K1.out)
  have OG : Hid (w.heap.size < O ∧ w.heap.size < g ∧ O ≠ g) := by show _ ∧ _ ∧ _; have := hb.size; have := Z1.out; omega
  have HW3 := Lib.hid hw3; have HO3 := Lib.hid hO
  clear hw3 ho hb g1 g2 CP hO
  go_upto_region 2 with (fail)
  rw [← HW3.out, ← HO3.out]
  clear HW3 HO3
  go_wp2
  go_loopw [5, 6] (fun q iv wr => ∃ (k at_ : Nat), k + 1 ≤ n ∧ at_ < k + 1 ∧ iv = .int .i64 ((k : Int) + 1) ∧ q = .int .i64 at_ ∧ lst (xs.take (k + 1)) = (g3 xs at_, true) ∧ PS w wr O g c' b n (fl xs)) (fun _ iv _ => n - (intOf iv).toNat)
  case atStart =>
    refine ⟨0, 0, by omega, by omega, rfl, rfl, ?_, P3.out⟩
    rw [take_snoc xs 0 (by have := HN.out; omega), List.take_zero, List.nil_append]
    unfold lst
    simp
  case round =>
    obtain ⟨k, at_, hk, hat, rfl, rfl, hl, hp⟩ := hrel
    have J := Lib.hid hp
    have HLS := Lib.hid hl
    have AT := Lib.hid hat
    have o0 := cell_of_row wr _ 0 _ _ _ hp.ob; have o1 := cell_of_row wr _ 1 _ _ _ hp.ob
    simp at o0 o1
    clear hp hl
    by_cases hlt : k + 1 < n
    · have LT := Lib.hid hlt
      have hlt' : (k : Int) + 1 < (n : Int) := by omega
      have LS := Lib.hid (lst_snoc (xs.take (k + 1)) (g3 xs (k + 1)))
      rw [← take_snoc xs (k + 1) (by have := HN.out; omega), HLS.out] at LS
      have a2 : wr.cell? ⟨g, (k + 1) * 3 + 2, none⟩ = some (.int .i64 (g3 xs (k + 1)).2.2) := by have e := J.out.ol.cell (j := (k + 1) * 3 + 2) (by have := HN.out; omega); rw [(fl_get xs (k + 1) (by have := HN.out; omega)).2.2] at e; exact e
      have b2 : wr.cell? ⟨g, at_ * 3 + 2, none⟩ = some (.int .i64 (g3 xs at_).2.2) := by have e := J.out.ol.cell (j := at_ * 3 + 2) (by have := HN.out; omega); rw [(fl_get xs at_ (by have := HN.out; omega)).2.2] at e; exact e
      have ha : at_ < n := by omega
      by_cases hx : (g3 xs (k + 1)).2.2 < (g3 xs at_).2.2
      · have L2 : Hid (lst (xs.take (k + 1 + 1)) = (g3 xs (k + 1), true)) := by show _ = _; rw [LS.out, if_pos (by right; exact hx)]
        clear LS HLS
        go_upto_region 6 with (fail)
        go_quiet (fail)
        go_wp2
        go_roundw
        case rel => exact ⟨k + 1, k + 1, by have := LT.out; omega, by omega, by go_num, by go_num, L2.out, J.out.drewN _⟩
        case measure => have := LT.out; simp [intOf]; omega
      · have L2 : Hid (lst (xs.take (k + 1 + 1)) = (g3 xs at_, true)) := by show _ = _; rw [LS.out, if_neg (by rintro (h | h); cases h; exact hx h)]
        clear LS HLS
        go_upto_region 6 with (fail)
        go_quiet (fail)
        go_wp2
        go_roundw
        case rel => exact ⟨k + 1, at_, by have := LT.out; omega, by have := AT.out; omega, by go_num, rfl, L2.out, J.out.drewN _⟩
        case measure => have := LT.out; simp [intOf]; omega
    · obtain rfl : n = k + 1 := by omega
      have TKN : Hid (xs.take (k + 1) = xs) := List.take_of_length_le (by have := HN.out; omega)
      rw [TKN.out] at HLS
      clear TKN
      have hax : at_ < xs.length := by have := HN.out; omega
      have OKX := Lib.hid (okR_mem HO.out (g3_mem hax))
      have NX : Hid ((nxt5 (lst xs).1).1 = (g3 xs at_).1) := by show _ = _; rw [HLS.out]; rfl
      have PK := Lib.hid (pk_set HR.out hax NX.out)
      have FS := Lib.hid (fl_set xs at_ hax ((g3 xs at_).2.2 + strd (g3 xs at_).2.1))
      have NE : Hid (nxt5 (lst xs).1 = ((g3 xs at_).1, (g3 xs at_).2.1, (g3 xs at_).2.2 + strd (g3 xs at_).2.1)) := by show _ = _; rw [HLS.out]; rfl
      rw [← NE.out, ← PK.out] at FS
      have LL : Hid ((lst xs).1.1 = (g3 xs at_).1) := by show _ = _; rw [HLS.out]
      have PL : Hid ((pk5 xs (nxt5 (lst xs).1)).length = k + 1) := by show _ = _; unfold pk5; have := HN.out; simp; omega
      have a1 : wr.cell? ⟨g, at_ * 3 + 1, none⟩ = some (.int .i64 (g3 xs at_).2.1) := by have e := J.out.ol.cell (j := at_ * 3 + 1) (by have := HN.out; omega); rw [(fl_get xs at_ (by have := HN.out; omega)).2.1] at e; exact e
      have a2 : wr.cell? ⟨g, at_ * 3 + 2, none⟩ = some (.int .i64 (g3 xs at_).2.2) := by have e := J.out.ol.cell (j := at_ * 3 + 2) (by have := HN.out; omega); rw [(fl_get xs at_ (by have := HN.out; omega)).2.2] at e; exact e
      have a0 : wr.cell? ⟨g, at_ * 3, none⟩ = some (.int .i64 (g3 xs at_).1) := by have e := J.out.ol.cell (j := at_ * 3) (by have := HN.out; omega); rw [(fl_get xs at_ (by have := HN.out; omega)).1] at e; exact e
      have fr := J.out.ol.frozen (at_ * 3 + 2)
      have GIS : Hid (∀ q, gi ((fl xs).set (at_ * 3 + 2) q) (at_ * 3) = (g3 xs at_).1) := fun q => by
        unfold gi
        rw [List.getD_eq_getElem?_getD, List.getElem?_set_ne (by omega), ← List.getD_eq_getElem?_getD]
        exact (fl_get xs at_ hax).1
      obtain ⟨⟨x0, x1, x2⟩, hx⟩ : ∃ x : R3, x = g3 xs at_ := ⟨_, rfl⟩
      rw [← hx] at a0 a1 a2 OKX NX FS NE LL GIS
      obtain ⟨ys, hys⟩ : ∃ ys, ys = pk5 xs (nxt5 (lst xs).1) := ⟨_, rfl⟩
      rw [← hys] at FS PL
      have HYS := Lib.hid hys
      clear hx hys NX PK NE HLS
      have OK2 := Lib.hid (show okT x1 = true ∧ b ≤ x2 ∧ x2 ≤ b + 2520 by
        have h1 := OKX.out
        unfold okR at h1
        simp at h1
        have := strd_in h1.1.2
        exact ⟨h1.1.2, by omega, by omega⟩)
      obtain ⟨t1, t2⟩ := okT_iff.1 OK2.out.1
      have SI := Lib.hid (strd_in OK2.out.1)
      have tn : ¬ x1 = 0 := by omega
      have hd : (2520 : Int).tdiv x1 = strd x1 := Int.tdiv_eq_ediv_of_nonneg (by omega)
      have hw : IntKind.i64.wrap (strd x1) = strd x1 := IntWalk.i64_in _ (by have := SI.out; omega)
      have hw2 : IntKind.i64.wrap (x2 + strd x1) = x2 + strd x1 := IntWalk.i64_in _ (by have := SI.out; have := OK2.out; have := HB.out; omega)
      have ha : at_ < k + 1 := AT.out
      have A0 : Hid (x0 = gi (fl ys) (at_ * 3)) := by
        show _ = _
        rw [← FS.out, GIS.out]
      clear t1 t2
      go_upto_region 8 with (fail)
      go_region
      obtain ⟨w8, hw8⟩ : ∃ w8, w8 = (wr.setCell ⟨g, at_ * 3 + 2, none⟩ (.int .i64 (x2 + strd x1))).drew := ⟨_, rfl⟩
      rw [← hw8]
      have P8 : Hid (PS w w8 O g c' b (k + 1) (fl ys)) := by
        rw [hw8, ← FS.out]
        have h1 := OG.out
        exact ⟨(Below.heap_setCell _ _ _ _ (by simp; omega)).trans J.out.ob, (Below.heap_setCell _ _ _ _ (by simp; omega)).trans J.out.rb, OR.drewN (OR.set J.out.ol _ _) 1, (J.out.bw.setCell (p := ⟨g, at_ * 3 + 2, none⟩) (by simp; omega) _).drew⟩
      have LE : Hid (∀ V, Below w8.heap.size w8 V → Calls Try.prog 97 #[.slice (some ⟨g, 0, none⟩) (k + 1) c', .int .i64 b] V fun e w' => e = .returned (.int .i64 (bas ys b)) ∧ V = w') := fun V hV => by
        have o := P8.out.ol
        rw [← PL.out] at o ⊢
        exact l5Least_any (w.heap.size + 1) w8.heap.size _ c' b ys V (by have := PL.out; omega) (Sl.below (OR.sl0 o) hV (Nat.le_refl _))
      obtain ⟨nb, hnb⟩ : ∃ nb, nb = bas ys b := ⟨_, rfl⟩
      rw [← hnb] at LE
      have HNB := Lib.hid hnb
      clear hnb o0 o1 a0 a1 a2 fr hd hw hw2 tn hw8
      have o0 := cell_of_row w8 _ 0 _ _ _ P8.out.ob; have o1 := cell_of_row w8 _ 1 _ _ _ P8.out.ob; have fo0 := frozen_of_row w8 _ 0 _ _ P8.out.ob
      simp at o0 o1
      go_wp2_with fail
      refine (LE.out _ (Below.refl _ _)).mono ?_
      rintro e9 w9' ⟨rfl, rfl⟩
      obtain ⟨w9, hw9⟩ : ∃ w9, w9 = w8.setCell ⟨O, 0, none⟩ (.int .i64 nb) := ⟨_, rfl⟩
      have P9 : Hid (PS w w9 O g c' nb (k + 1) (fl ys)) := by
        rw [hw9]
        have h1 := OG.out
        exact ⟨heap_setCell_same _ _ 0 _ _ _ P8.out.ob, (Below.heap_setCell _ _ _ _ (by simp; omega)).trans P8.out.rb, OR.setOther P8.out.ol P8.out.ob (by decide) 0 _, P8.out.bw.setCell (p := ⟨O, 0, none⟩) (by simp; omega) _⟩
      have HW9 := Lib.hid hw9
      clear hw9
      go_upto_region 10 with (fail)
      rw [← HW9.out]
      clear HW9 o0 o1 fo0 LE
      have a0 : w9.cell? ⟨g, at_ * 3, none⟩ = some (.int .i64 x0) := by
        have e := P9.out.ol.cell (j := at_ * 3) (by have := AT.out; omega)
        rw [← A0.out] at e
        exact e
      have t0 := cell_of_row w9 _ 0 _ _ _ P9.out.ob; have t1 := cell_of_row w9 _ 1 _ _ _ P9.out.ob
      have z0 := cell_of_row w9 _ 0 _ _ _ P9.out.rb; have z1 := cell_of_row w9 _ 1 _ _ _ P9.out.rb; have f0 := frozen_of_row w9 _ 0 _ _ P9.out.rb; have f1 := frozen_of_row w9 _ 1 _ _ P9.out.rb
      simp at t0 t1 z0 z1
      have h1 : w.heap.size ≠ g := by have := OG.out; omega
      have h2 : w.heap.size ≠ O := by have := OG.out; omega
      have h3 : g ≠ w.heap.size := by have := OG.out; omega
      have h4 : O ≠ w.heap.size := by have := OG.out; omega
      go_region
      obtain ⟨w10, hw10⟩ : ∃ w10, w10 = ((w9.setCell ⟨w.heap.size, 0, none⟩ (.int .i64 nb)).setCell ⟨w.heap.size, 1, none⟩ (.slice (some ⟨g, 0, none⟩) (k + 1) c')).drew := ⟨_, rfl⟩
      rw [← hw10]
      have X10 : Hid (w10.heap[w.heap.size]? = some (.cells #[.int .i64 nb, .slice (some ⟨g, 0, none⟩) (k + 1) c'] 43 (0, 0))) := by show _ = _; rw [hw10]; exact heap_setCell_same _ _ 1 _ _ _ (heap_setCell_same _ _ 0 _ _ _ P9.out.rb)
      have O10 : Hid (OR 52 3 w10 (w.heap.size + 1) (some ⟨g, 0, none⟩) (k + 1) c' (fl ys)) := by rw [hw10]; exact OR.drewN (OR.setOther (OR.setOther P9.out.ol P9.out.rb (by decide) 0 _) (heap_setCell_same _ _ 0 _ _ _ P9.out.rb) (by decide) 1 _) 1
      have B10 : Hid (Below w.heap.size w w10) := by rw [hw10]; exact ((P9.out.bw.setCell (p := ⟨w.heap.size, 0, none⟩) (Nat.le_refl _) _).setCell (p := ⟨w.heap.size, 1, none⟩) (Nat.le_refl _) _).drew
      clear hw10 z0 z1 f0 f1 t0 t1 a0
      go_wp2
      refine bodyPost_ret (results_row_tmp rfl _ _ w.heap.size _ _ (0, 0) _ rfl X10.out Try.underlying43 rfl (by kernel_rfl)) rfl ?_
      refine ⟨some ⟨g, 0, none⟩, c', by rw [← HYS.out, LL.out, ← HNB.out]; rfl, ?_, B10.out⟩
      rw [← HYS.out]
      exact OR.mono O10.out (by omega)

theorem l5Picks2_any {u0 u1 : Value} (A : Option Addr) (c s0 : Nat) (b : Int) (xs : List R3) (w : World) (hb : 0 ≤ b ∧ b ≤ 10000000) (hl : xs.length ≤ 5) (hs : w.heap[s0]? = some (.cells #[u0, u1, .int .i64 b, .slice A xs.length c] 48 (0, 0))) :
    Calls Try.prog 75 #[.pointer (some ⟨s0, 2, none⟩)] w fun e w' => e = .returned (.int .i64 (pq5 b xs)) ∧ w = w' := by
  have q0 := cell_of_row w _ 2 _ _ _ hs; have q1 := cell_of_row w _ 3 _ _ _ hs
  simp at q0 q1
  have hw : IntKind.i64.wrap (b + 2520) = b + 2520 := IntWalk.i64_in _ (by omega)
  have HX : Hid (xs = [] ↔ xs.length = 0) := by show _ ↔ _; exact List.length_eq_zero_iff.symm
  obtain ⟨n, hn⟩ : ∃ n, n = xs.length := ⟨_, rfl⟩
  rw [← hn] at q1 HX
  clear hs hn
  by_cases h0 : n = 0
  · have Q : Hid (pq5 b xs = 4) := by show _ = _; unfold pq5; rw [if_pos (HX.out.2 h0)]
    have h0'' : (n : Int) = 0 := by omega
    go_enter Try.func75, Try.ntmps75
    go_wp2
    go_ret
    exact ⟨ret_i64 Q.out.symm, rfl⟩
  · have hn : ¬ (n : Int) = 0 := by omega
    by_cases hf : 10000000 < b + 2520
    · have Q : Hid (pq5 b xs = 8) := by show _ = _; unfold pq5; rw [if_neg (fun h => h0 (HX.out.1 h)), if_pos hf]
      go_enter Try.func75, Try.ntmps75
      go_wp2
      go_ret
      exact ⟨ret_i64 Q.out.symm, rfl⟩
    · have Q : Hid (pq5 b xs = 0) := by show _ = _; unfold pq5; rw [if_neg (fun h => h0 (HX.out.1 h)), if_neg hf]
      go_enter Try.func75, Try.ntmps75
      go_wp2
      go_ret
      exact ⟨ret_i64 Q.out.symm, rfl⟩

end Go.Proofs.Ytckapndpefkcgaa
