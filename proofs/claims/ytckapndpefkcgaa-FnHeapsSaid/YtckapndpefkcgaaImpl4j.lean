/-
  The program's SortedOf: it answers as the model's. No conditions beyond that the heap can be read.
-/
import Derived.Maps.AppendAt
import Derived.BigRegion
import Derived.BigQuiet
import Derived.StillTailTactics
import Derived.Deep.RegionHeld3
import Derived.Laws.Tables
import Derived.Laws.CopyOwn
import Derived.Test.YtckapndpefkcgaaImpl4h
import Derived.Test.YtckapndpefkcgaaSpec4h
import Derived.Test.YtckapndpefkcgaaMath4
import Derived.Test.YtckapndpefkcgaaKit4
set_option maxHeartbeats 1000000
namespace Go.Proofs.Ytckapndpefkcgaa
open Go.RowKit
set_option maxRecDepth 100000

set_option maxHeartbeats 1000000 in
theorem implSortedOf_any (lo hi : Nat) (A : Option Addr) (n c : Nat) (hs : List Int) (w : World) (hn : n * 16 ≤ 140737488351232) (ex : hs.length = n * 2) (hA : A = none → c = 0) (hcap : n ≤ c) (h : Sl w lo hi A (n * 2) (fun k => .int .i64 (gi hs k))) :
    Calls Try.prog 15 #[.slice A n c] w (HAns (sorted4 hs n) w) := by
  obtain ⟨w2, hw2⟩ : ∃ w2, w2 = w.alloc (.cells #[.int .i64 0, .slice none 0 0] 30) := ⟨_, rfl⟩
  have k2 : w2.heap[w.heap.size]? = some (.cells #[.int .i64 0, .slice none 0 0] 30 (0, 0)) := by rw [hw2]; exact heap_alloc_new w _
  have B2 : Hid (Below w.heap.size w w2) := by rw [hw2]; exact below_new w _
  have Z2 : Hid (w2.heap.size = w.heap.size + 1) := by show _ = _; rw [hw2]; simp
  have K2 := Lib.hid (show ∀ W, Below w2.heap.size w2 W → W.heap[w.heap.size]? = some (.cells #[.int .i64 0, .slice none 0 0] 30 (0, 0)) from fun W hW => (hW.block w.heap.size (by have := Z2.out; omega)).trans k2)
  have QS : Hid (∀ W, Below w2.heap.size w2 W → (W.cell? ⟨w.heap.size, 0, none⟩ = some (.int .i64 0) ∧ W.cell? ⟨w.heap.size, 1, none⟩ = some (.slice none 0 0)) ∧ W.frozen? ⟨w.heap.size, 0, none⟩ = false ∧ W.frozen? ⟨w.heap.size, 1, none⟩ = false) := fun W hW => by
    have j := K2.out W hW
    exact ⟨⟨cell_of_row W _ 0 _ _ _ j, cell_of_row W _ 1 _ _ _ j⟩, frozen_of_row W _ 0 _ _ j, frozen_of_row W _ 1 _ _ j⟩
  have H2 := Lib.hid (h.lt.below B2.out (Nat.min_le_right _ _))
  have HW2 := Lib.hid hw2
  have BB : Hid (∀ W, Below w2.heap.size w2 W → Below w.heap.size w W) := fun W hW => B2.out.trans (hW.mono (by have := Z2.out; omega))
  have EX := Lib.hid ex
  have HA := Lib.hid hA
  have HC := Lib.hid hcap
  clear h k2 hw2 ex hA hcap
  obtain ⟨v, hv⟩ : ∃ v, v = hf hs n := ⟨_, rfl⟩
  obtain ⟨i0, hi0, hz0, hz1, hz2⟩ := info_parts Try.info_Entry
  go_enter Try.func15, Try.ntmps15
  go_upto_region 1 with (fail)
  rw [← HW2.out]
  clear HW2
  go_wp2_with fail
  refine (implHeapFault_any _ _ A n c hs w2 hn EX.out HA.out HC.out H2.out).mono ?_
  rw [← hv]
  rintro e w3 ⟨rfl, hb⟩
  have R3 := Lib.hid hb
  clear hb
  by_cases h0 : v = 0
  · subst h0
    have H0 := Lib.hid hv.symm
    clear hv
    have N12 := Lib.hid (hf_small H0.out)
    go_wp2_with fail
    refine (heapWith_any _ _ A n c hs w3 hn EX.out HA.out (H2.out.below R3.out (by have := B2.out.size; omega))).mono ?_
    rintro e w5 ⟨hb0, A', c', rfl, hh, hb⟩
    have H5 := Lib.hid hh
    have R5 := Lib.hid (R3.out.trans (hb.mono R3.out.size))
    have Z5 := Lib.hid (show w2.heap.size ≤ w3.heap.size ∧ w3.heap.size ≤ hb0 from ⟨R3.out.size, hh.hb0⟩)
    clear hh hb
    go_wp2_with fail
    go_loopw [5] (fun o wr => ∃ (j m c1 : Nat) (A1 A' : Option Addr) (out xs : List Int), j + m = n ∧ o = .slice A1 j c1 ∧ OR 26 2 wr w3.heap.size A1 j c1 out ∧ HB wr w3.heap.size hb0 A' m c' xs ∧ (∀ g1 g2 : Nat, A1 = some ⟨g1, 0, none⟩ → A' = some ⟨g2, 0, none⟩ → g1 ≠ g2) ∧ out ++ srt4 m xs = srt4 n hs ∧ Below w2.heap.size w2 wr) (fun o _ => n - sliceLen o)
    case atStart => exact ⟨0, n, 0, none, A', [], hs, by omega, rfl, OR.void _ _, H5.out, (fun _ _ e => by cases e), rfl, R5.out⟩
    case round =>
      obtain ⟨j, m, c1, A1, A', out, xs, hjm, rfl, ho, hx, hd, hu, hb⟩ := hrel
      have OX := Lib.hid ho
      have XX := Lib.hid hx
      have DX := Lib.hid hd
      have UX := Lib.hid hu
      have RX := Lib.hid hb
      obtain ⟨q0, q1⟩ := hx.cells
      clear ho hx hd hu hb H5 R5
      rcases m with _ | m
      · have PE : Hid (sorted4 hs n = (0, out)) := by
          show _ = _
          unfold sorted4; rw [if_neg (by simp [H0.out]), ← UX.out]; simp [srt4]
        obtain ⟨⟨y0, y1⟩, f0, f1⟩ := QS.out wr RX.out
        go_wp2
        exact bodyPost_ret (results_cell_row rfl _ _ _ _ _ (0, 0) _ rfl (heap_setCell_same _ _ 1 _ _ _ (heap_setCell_same _ _ 0 _ _ _ (K2.out _ RX.out))) Try.underlying30 rfl (by kernel_rfl)) rfl ⟨_, _, _, by rw [PE.out]; rfl, by rw [PE.out]; exact OR.mono (OX.out.keepAll fun g e => by subst e; exact (Below.heap_setCell _ ⟨w.heap.size, 1, none⟩ _ _ (by have h8 := (OR.lt OX.out).1; have h9 := Z2.out; have h7 := Z5.out; show g ≠ w.heap.size; omega)).trans (Below.heap_setCell _ ⟨w.heap.size, 0, none⟩ _ _ (by have h8 := (OR.lt OX.out).1; have h9 := Z2.out; have h7 := Z5.out; show g ≠ w.heap.size; omega))) (by have := Z2.out; have := Z5.out; omega), (((BB.out _ RX.out).setCell (p := ⟨w.heap.size, 0, none⟩) (by first | omega | simp) _).setCell (p := ⟨w.heap.size, 1, none⟩) (by first | omega | simp) _)⟩
      · obtain ⟨g2, rfl, hg2, _⟩ := OR.pos XX.out.own (by omega)
        have hl0 : (0 : Int) < (m : Int) + 1 := by omega
        have HG2 := Lib.hid hg2
        clear hg2
        go_wp2_with fail
        refine (pop_any _ hb0 g2 m c' xs wr (by have := N12.out; omega) XX.out).mono ?_
        rintro e w6 ⟨rfl, hh, hkk⟩
        have X6 := Lib.hid hh
        have O6 := Lib.hid (OX.out.kept hkk (fun g e => by
          have h1 := DX.out g g2 e rfl
          have h2 : g ≠ hb0 := by subst e; exact or_ne XX.out.box OX.out
          simp; exact ⟨h1, h2⟩))
        have R6 := Lib.hid (RX.out.trans (hkk.below RX.out.size (fun b hb' => by have := Z5.out; have := HG2.out; simp at hb'; omega)))
        clear hh hkk OX XX RX q0 q1
        obtain ⟨w7, hw7⟩ : ∃ w7, w7 = w6.alloc (.cells #[.int .i64 (gi xs 0), .int .i64 (gi xs 1)] 26) := ⟨_, rfl⟩
        have k7 : w7.heap[w6.heap.size]? = some (.cells #[.int .i64 (gi xs 0), .int .i64 (gi xs 1)] 26 (0, 0)) := by rw [hw7]; exact heap_alloc_new w6 _
        have B7 := Lib.hid (show Below w6.heap.size w6 w7 by rw [hw7]; exact below_new w6 _)
        have NW : Hid (∀ j u, ([.int .i64 (gi xs 0), .int .i64 (gi xs 1)] : List Value)[j]? = some u → w7.cell? ((⟨w6.heap.size, 0, none⟩ : Addr).add j) = some u) := by
          intro j u hu
          rw [Go.WideShapes.add_plain]
          rcases j with _ | _ | j
          · injection hu with hu; subst hu; exact cell_of_row w7 _ 0 _ _ _ k7
          · injection hu with hu; subst hu; exact cell_of_row w7 _ 1 _ _ _ k7
          · simp at hu
        have HW7 := Lib.hid hw7
        have O7 := Lib.hid (O6.out.below B7.out (Nat.le_refl _))
        have X7 := Lib.hid (X6.out.below B7.out (Nat.le_refl _))
        have R7 := Lib.hid (R6.out.trans (B7.out.mono R6.out.size))
        have Z7 := Lib.hid (show w3.heap.size ≤ w7.heap.size by have := (OR.lt X7.out.own).1; have := (OR.lt X7.out.own).2; omega)
        clear hw7 k7 O6 X6 R6
        go_wp2_with
          (at_builtin
           rw [← HW7.out]
           refine wpList_append_own_at _ rfl (.tmp 20) (.tmp 23) 24 rfl w3.heap.size 26 i0 (.agg #[.int .i64 0, .int .i64 0]) 2 16 Try.underlying24 hi0 hz0 hz1 hz2 rfl (by decide) _ j _ rfl O7.out ⟨w6.heap.size, 0, none⟩ 1 1 [.int .i64 (gi xs 0), .int .i64 (gi xs 1)] rfl rfl NW.out (by simp [Value.oneCell']) (by have := N12.out; unfold maxLen; omega) (by have := N12.out; omega) Z7.out ?_
           intro v' w8 hown hgrow _ hat
           rw [show vals out ++ [Value.int .i64 (gi xs 0), .int .i64 (gi xs 1)] = vals (out ++ [gi xs 0, gi xs 1]) by simp [vals]] at hown
           obtain ⟨A7, c7, rfl, ho⟩ := or_of' hown
           obtain ⟨g7, rfl, hg7, hg8⟩ := OR.pos ho (by omega)
           have hrow : ∀ k, (Value.slice A1 j c1).ownBlock = some k → w3.heap.size ≤ k ∧ k ≠ g2 ∧ k ≠ hb0 := fun k hk => by
             rcases A1 with _ | ad
             · cases hk
             · obtain ⟨g, e1, h1, _⟩ := OR.at_ O7.out (by simp)
               injection e1 with e1
               subst e1
               have e2 : some g = some k := hk
               injection e2 with e2
               subst e2
               exact ⟨h1, DX.out g g2 rfl rfl, or_ne X7.out.box O7.out⟩
           have R8 := Lib.hid (R7.out.grown hgrow R7.out.size (fun k hk => by have := hrow k hk; have := Z5.out; omega))
           have X8 := Lib.hid (X7.out.keepAll (w' := w8) (fun b hb' => hgrow.block b (by
               rcases hb' with rfl | e
               · exact X7.out.lt
               · injection e with e; injection e with e; subst e; exact (OR.lt X7.out.own).2) (fun e2 => by
               have h9 := hrow b e2.symm
               rcases hb' with rfl | e
               · exact h9.2.2 rfl
               · injection e with e; injection e with e; exact h9.2.1 e.symm)))
           have O8 := Lib.hid ho
           have D8 := Lib.hid (show g7 ≠ g2 by
             rcases hat with e | e
             · have h9 := hrow g7 e.symm
               exact h9.2.1
             · have e' : some g7 = some w7.heap.size := e
               injection e' with e'
               have := (OR.lt X7.out.own).2
               omega)
           clear hown hgrow ho hg7 hg8 hat hrow)
        have UE : Hid ((out ++ [gi xs 0, gi xs 1]) ++ srt4 m (pop4 xs m) = srt4 n hs) := by
          show _ = _
          rw [← UX.out]; simp [srt4]
        clear O7 X7 R7
        go_wp2
        go_roundw
        case rel => exact ⟨j + 1, m, c7, some ⟨g7, 0, none⟩, some ⟨g2, 0, none⟩, _, _, by omega, by go_num, O8.out, X8.out, fun a b e1 e2 => by injection e1 with e1; injection e1 with e1; injection e2 with e2; injection e2 with e2; subst e1 e2; exact D8.out, UE.out, R8.out⟩
        case measure => first | (simp [sliceLen]; done) | (simp [sliceLen]; omega)
  · have PE : Hid (sorted4 hs n = (v, [])) := by show _ = _; unfold sorted4; rw [if_pos (by rw [← hv]; exact h0), ← hv]
    have hv0 : (v != 0) = true := by simp [h0]
    obtain ⟨⟨y0, y1⟩, f0, f1⟩ := QS.out w3 R3.out
    clear hv
    go_wp2
    exact bodyPost_ret (results_cell_row rfl _ _ _ _ _ (0, 0) _ rfl (heap_setCell_same _ _ 1 _ _ _ (heap_setCell_same _ _ 0 _ _ _ (K2.out _ R3.out))) Try.underlying30 rfl (by kernel_rfl)) rfl (hans_code PE.out (((BB.out _ R3.out).setCell (p := ⟨w.heap.size, 0, none⟩) (by first | omega | simp) _).setCell (p := ⟨w.heap.size, 1, none⟩) (by first | omega | simp) _))

end Go.Proofs.Ytckapndpefkcgaa
