/-
  The model's l5Copy, of a list that is not empty, its l5Pick and its PickSched. No conditions beyond that the list can be read.
-/
import Derived.Test.YtckapndpefkcgaaSpec5b
set_option maxHeartbeats 1000000
namespace Go.Proofs.Ytckapndpefkcgaa
open Go.RowKit
set_option maxRecDepth 100000

set_option maxHeartbeats 8000000 in
theorem l5Copy_any (lo hi : Nat) (A : Option Addr) (c s0 : Nat) (b : Int) (xs : List R3) (w : World) (hl : xs.length ≤ 5) (h0 : 0 < xs.length) (h : RS w lo hi A xs)
    (hs : w.heap[s0]? = some (.cells #[.int .i64 b, .slice A xs.length c] 43 (0, 0))) :
    Calls Try.prog 74 #[.pointer (some ⟨s0, 0, none⟩)] w fun e w' => ∃ A' c', e = .returned (.agg #[.int .i64 b, .slice A' xs.length c']) ∧ OR 52 3 w' w.heap.size A' xs.length c' (fl xs) ∧ Below w.heap.size w w' := by
  have H := Lib.hid h.lt
  obtain ⟨i0, hi0, hz0, hz1, hz2⟩ := info_parts infoReady
  obtain ⟨bb, off, rfl, e1, e2, hc⟩ := Sl.at_ H.out (show 0 < xs.length * 3 by omega)
  have hl3 : (fl xs).length = xs.length * 3 := fl_len xs
  have HC := Lib.hid hc
  have HH := Lib.hid e2
  have HL3 := Lib.hid hl3
  obtain ⟨n, hn'⟩ : ∃ n, n = xs.length := ⟨_, rfl⟩
  have HN := Lib.hid hn'
  rw [← hn'] at hs hl h0 ⊢
  have S0 := Lib.hid (Array.getElem?_eq_some_iff.1 hs).1
  have KS : Hid (∀ W, Below w.heap.size w W → W.cell? ⟨s0, 0, none⟩ = some (.int .i64 b) ∧ W.cell? ⟨s0, 1, none⟩ = some (.slice (some ⟨bb, off, none⟩) n c)) := fun W hW => by
    have j := (hW.block s0 S0.out).trans hs
    exact ⟨cell_of_row W _ 0 _ _ _ j, cell_of_row W _ 1 _ _ _ j⟩
  obtain ⟨w1, hw1⟩ : ∃ w1, w1 = w.alloc (.cells #[.int .i64 0, .slice none 0 0] 43) := ⟨_, rfl⟩
  have K1 : Hid (w1.heap[w.heap.size]? = some (.cells #[.int .i64 0, .slice none 0 0] 43 (0, 0))) := by show _ = _; rw [hw1]; exact heap_alloc_new w _
  have B1 : Hid (Below w.heap.size w w1) := by rw [hw1]; exact below_new w _
  have Z1 : Hid (w1.heap.size = w.heap.size + 1) := by show _ = _; rw [hw1]; simp
  have BE : Hid (Below w.heap.size w (w1.drew.alloc (.cells #[] 52))) := (B1.out.drew).alloc (by have := Z1.out; simp; omega) _
  have OW : Hid ((w1.drew.alloc (.cells #[] 52)).ownsRow (w.heap.size + 1) 52 3 (.slice (some ⟨w1.heap.size, 0, none⟩) 0 0) 0 []) :=
    ⟨rfl, .inr ⟨w1.heap.size, 0, #[], rfl, by have := Z1.out; omega, heap_alloc_new _ _, Nat.le_refl _, by simp [maxLen], rfl, rfl⟩⟩
  have NW : Hid (∀ j u, (vals (fl xs))[j]? = some u → (w1.drew.alloc (.cells #[] 52)).cell? ((⟨bb, off, none⟩ : Addr).add j) = some u) := by
    intro j u hu
    have hj : j < (fl xs).length := by have := (List.getElem?_eq_some_iff.1 hu).1; simpa [vals] using this
    rw [vals_get (fl xs) j hj] at hu
    injection hu with hu
    subst hu
    rw [Go.WideShapes.add_plain]
    exact (BE.out.cell (p := ⟨bb, off + j, none⟩) (by have := HH.out; simp; omega)).trans (HC.out j (by have := HL3.out; omega))
  have ON : Hid (∀ u ∈ vals (fl xs), u.oneCell' = true) := by
    intro u hu
    simp only [vals, List.mem_map] at hu
    obtain ⟨_, _, rfl⟩ := hu
    rfl
  have LN : Hid ((vals (fl xs)).length = n * 3) := by show _ = _; simp only [vals, List.length_map]; rw [HL3.out, ← HN.out]
  obtain ⟨q0, q1⟩ := KS.out w1 B1.out
  obtain ⟨t0, t1⟩ := KS.out (w1.alloc (.cells #[] 52)) (B1.out.alloc (by have := Z1.out; omega) _)
  have HW1 := Lib.hid hw1
  have K1E : Hid ((w1.drew.alloc (.cells #[] 52)).heap[w.heap.size]? = some (.cells #[.int .i64 0, .slice none 0 0] 43 (0, 0))) := ((below_new w1.drew (.cells #[] 52)).block w.heap.size (by have := Z1.out; show _ < w1.heap.size; omega)).trans K1.out
  clear hw1 hc e1 e2 hl3 hs hn' H h
  go_enter Try.func74, Try.ntmps74
  go_upto_region 1 with (fail)
  rw [← HW1.out]
  clear HW1
  go_region_law (refine step_append_lies _ rfl (.tmp 7) (.tmp 11) 41 rfl (w.heap.size + 1) 52 i0 (.agg #[.int .i64 0, .int .i64 0, .int .i64 0]) 3 24 Try.underlying41 hi0 hz0 hz1 hz2 rfl (by decide) (.slice (some ⟨w1.heap.size, 0, none⟩) 0 0) 0 [] rfl OW.out ⟨bb, off, none⟩ n c (vals (fl xs)) rfl LN.out NW.out ON.out (by omega) (by unfold maxLen; omega) (by omega) (by have := Z1.out; simp; omega) _ rfl ?_; intro g7 cap w7 hown hgrow hat hlt; have K7 := Lib.hid ((hgrow.block w.heap.size (Array.getElem?_eq_some_iff.1 K1E.out).1 (by intro e; have e' : w.heap.size = w1.heap.size := Option.some.inj e; have := Z1.out; omega)).trans K1E.out); have y0 := cell_of_row w7 _ 0 _ _ _ K7.out; have y1 := cell_of_row w7 _ 1 _ _ _ K7.out; have f0 := frozen_of_row w7 _ 0 _ _ K7.out; have f1 := frozen_of_row w7 _ 1 _ _ K7.out; simp at y0 y1; have HO7 := Lib.hid hown; have B7 := Lib.hid (BE.out.grown hgrow (by have := Z1.out; simp; omega) (fun k hk => by have e' : w1.heap.size = k := Option.some.inj hk; have := Z1.out; omega)); obtain ⟨v0, v1⟩ := KS.out w7 B7.out; clear hown hgrow hat hlt)
  all_goals
    have HO7 : Hid (OR 52 3 w7 (w.heap.size + 1) (some ⟨g7, 0, none⟩) n cap (fl xs)) := by
      have := HO7.out
      simp only [Nat.zero_add, List.nil_append] at this
      exact this
    go_wp2
    refine bodyPost_ret (results_cell_row rfl _ _ w.heap.size _ _ (0, 0) _ rfl (heap_setCell_same _ _ 1 _ _ _ (heap_setCell_same _ _ 0 _ _ _ K7.out)) Try.underlying43 rfl (by kernel_rfl)) rfl ?_
    refine ⟨some ⟨g7, 0, none⟩, cap, rfl, ?_, (B7.out.setCell (p := ⟨w.heap.size, 0, none⟩) (Nat.le_refl _) _).setCell (p := ⟨w.heap.size, 1, none⟩) (Nat.le_refl _) _⟩
    exact OR.mono (OR.setOther (OR.setOther HO7.out K7.out (by decide) 0 _) (heap_setCell_same _ _ 0 _ _ _ K7.out) (by decide) 1 _) (by omega)

end Go.Proofs.Ytckapndpefkcgaa
