/-
  The model's SortedOf. No conditions beyond that the heap can be read.
-/
import Derived.Laws.AppendOwnNone
import Derived.BigRegion
import Derived.BigQuiet
import Derived.StillTailTactics
import Derived.Deep.RegionHeld3
import Derived.Maps.AppendAt
import Derived.Test.YtckapndpefkcgaaKit4
import Derived.Test.YtckapndpefkcgaaMath4
import Derived.Test.YtckapndpefkcgaaSpec4g
import Derived.Test.YtckapndpefkcgaaOwn4
set_option maxHeartbeats 1000000
namespace Go.Proofs.Ytckapndpefkcgaa
open Go.RowKit
set_option maxRecDepth 100000

def sliceLen : Value → Nat
  | .slice _ n _ => n
  | _ => 0
set_option maxHeartbeats 1000000 in
theorem specSortedOf_any (lo hi : Nat) (A : Option Addr) (n c : Nat) (hs : List Int) (w : World) (hn : n * 16 ≤ 140737488351232) (ex : hs.length = n * 2) (hA : A = none → c = 0) (h : Sl w lo hi A (n * 2) (fun k => .int .i64 (gi hs k))) :
    Calls Try.prog 20 #[.slice A n c] w (HAns (sorted4 hs n) w) := by
  obtain ⟨w2, hw2⟩ : ∃ w2, w2 = w.alloc (.cells #[.int .i64 0, .slice none 0 0] 30) := ⟨_, rfl⟩
  have k2 : w2.heap[w.heap.size]? = some (.cells #[.int .i64 0, .slice none 0 0] 30 (0, 0)) := by rw [hw2]; exact heap_alloc_new w _
  have B2 : Hid (Below w.heap.size w w2) := by rw [hw2]; exact below_new w _
  have Z2 : Hid (w2.heap.size = w.heap.size + 1) := by show _ = _; rw [hw2]; simp
  have K2 := Lib.hid (show ∀ W, Below w2.heap.size w2 W → W.heap[w.heap.size]? = some (.cells #[.int .i64 0, .slice none 0 0] 30 (0, 0)) from fun W hW => (hW.block w.heap.size (by have := Z2.out; omega)).trans k2)
  have QS : Hid (∀ W, Below w2.heap.size w2 W → (W.cell? ⟨w.heap.size, 0, none⟩ = some (.int .i64 0) ∧ W.cell? ⟨w.heap.size, 1, none⟩ = some (.slice none 0 0)) ∧ W.frozen? ⟨w.heap.size, 0, none⟩ = false ∧ W.frozen? ⟨w.heap.size, 1, none⟩ = false) := fun W hW => by
    have j := K2.out W hW
    exact ⟨⟨cell_of_row W _ 0 _ _ _ j, cell_of_row W _ 1 _ _ _ j⟩, frozen_of_row W _ 0 _ _ j, frozen_of_row W _ 1 _ _ j⟩
  have H2 := Lib.hid (h.lt.below B2.out (Nat.min_le_right _ _))
  have HW2 := Lib.hid hw2
  have BB : Hid (∀ W, Below w2.heap.size w2 W → Below w.heap.size w W) := fun W hW => B2.out.trans (hW.mono (by have := Z2.out; omega))
  clear h k2 hw2
  have EX := Lib.hid ex
  have HA := Lib.hid hA
  clear ex hA
  obtain ⟨v, hv⟩ : ∃ v, v = hf hs n := ⟨_, rfl⟩
  obtain ⟨i0, hi0, hz0, hz1, hz2⟩ := info_parts Try.info_Entry
  go_enter Try.func20, Try.ntmps20
  go_upto_region 1 with (fail)
  rw [← HW2.out]
  clear HW2
  go_wp2_with fail
  refine (specHeapFault_any _ _ A n c hs w2 hn H2.out).mono ?_
  rw [← hv]
  rintro e w3 ⟨rfl, hb⟩
  have R3 := Lib.hid hb
  clear hb
  by_cases h0 : v = 0
  · subst h0
    have H0 := Lib.hid hv.symm
    clear hv
    have N12 := Lib.hid (hf_small H0.out)
    go_upto_region 5 with (fail)
    obtain ⟨w4, hw4⟩ : ∃ w4, w4 = w3.alloc (.cells #[] 26) := ⟨_, rfl⟩
    rw [← hw4]
    obtain ⟨g1, hg1⟩ : ∃ g1, g1 = w3.heap.size := ⟨_, rfl⟩
    rw [← hg1]
    have O4 := Lib.hid (show OR 26 2 w4 w3.heap.size (some ⟨g1, 0, none⟩) 0 0 [] by rw [hw4, hg1]; exact OR.empty w3 (Nat.le_refl _))
    have R4 := Lib.hid (show Below w2.heap.size w2 w4 by rw [hw4]; exact R3.out.trans ((below_new w3 _).mono R3.out.size))
    have Z4 := Lib.hid (show g1 < w4.heap.size ∧ w2.heap.size ≤ g1 by rw [hw4, hg1]; have := R3.out.size; simp; omega)
    clear hw4 hg1
    go_wp2_with fail
    refine (l4Copy_any _ _ A n c hs w4 hn EX.out HA.out (H2.out.below R4.out (by have := B2.out.size; omega))).mono ?_
    rintro e w5 ⟨A', c', rfl, hnn, ho, hb⟩
    obtain ⟨g2, rfl, hg2, hg3⟩ := OR.at_ ho hnn
    have O5 := Lib.hid (OR.mono ho (show w2.heap.size ≤ w4.heap.size from R4.out.size))
    have P5 := Lib.hid (OR.mono (O4.out.below hb (Nat.le_refl _)) (show w2.heap.size ≤ w3.heap.size from R3.out.size))
    have R5 := Lib.hid (R4.out.trans (hb.mono R4.out.size))
    have D5 := Lib.hid (show g1 ≠ g2 by have := Z4.out; omega)
    clear ho hb hnn hg2 hg3 O4
    go_wp2_with fail
    go_loopw [4, 5] (fun o i wr => ∃ (j m c1 : Nat) (h1 : Nat) (out xs : List Int), j + m = n ∧ o = .slice (some ⟨h1, 0, none⟩) j c1 ∧ i = .slice (some ⟨g2, 0, none⟩) m c' ∧ OR 26 2 wr w2.heap.size (some ⟨h1, 0, none⟩) j c1 out ∧ OR 26 2 wr w2.heap.size (some ⟨g2, 0, none⟩) m c' xs ∧ h1 ≠ g2 ∧ out ++ srt4 m xs = srt4 n hs ∧ Below w2.heap.size w2 wr) (fun _ i _ => sliceLen i)
    case atStart => exact ⟨0, n, 0, g1, [], hs, by omega, rfl, rfl, P5.out, O5.out, D5.out, rfl, R5.out⟩
    case round =>
      obtain ⟨j, m, c1, h1, out, xs, hjm, rfl, rfl, ho, hx, hd, hu, hb⟩ := hrel
      have OX := Lib.hid ho
      have XX := Lib.hid hx
      have DX := Lib.hid hd
      have UX := Lib.hid hu
      have RX := Lib.hid hb
      clear ho hx hd hu hb O5 P5 R5 D5
      rcases m with _ | m
      · have PE : Hid (sorted4 hs n = (0, out)) := by
          show _ = _
          unfold sorted4; rw [if_neg (by simp [H0.out]), ← UX.out]; simp [srt4]
        obtain ⟨⟨y0, y1⟩, f0, f1⟩ := QS.out wr RX.out
        go_wp2
        exact bodyPost_ret (results_cell_row rfl _ _ _ _ _ (0, 0) _ rfl (heap_setCell_same _ _ 1 _ _ _ (heap_setCell_same _ _ 0 _ _ _ (K2.out _ RX.out))) Try.underlying30 rfl (by kernel_rfl)) rfl ⟨_, _, _, by rw [PE.out]; rfl, by rw [PE.out]; exact OR.mono (OX.out.keepAll fun g e => by injection e with e; injection e with e; subst e; exact (Below.heap_setCell _ ⟨w.heap.size, 1, none⟩ _ _ (by have h8 := (OR.lt OX.out).1; have h9 := Z2.out; show h1 ≠ w.heap.size; omega)).trans (Below.heap_setCell _ ⟨w.heap.size, 0, none⟩ _ _ (by have h8 := (OR.lt OX.out).1; have h9 := Z2.out; show h1 ≠ w.heap.size; omega))) (by have := Z2.out; omega), (((BB.out _ RX.out).setCell (p := ⟨w.heap.size, 0, none⟩) (by first | omega | simp) _).setCell (p := ⟨w.heap.size, 1, none⟩) (by first | omega | simp) _)⟩
      · have c0 : wr.cell? ⟨g2, 0, none⟩ = some (.int .i64 (gi xs 0)) := XX.out.cell (by omega)
        have c1' : wr.cell? ⟨g2, 1, none⟩ = some (.int .i64 (gi xs 1)) := XX.out.cell (by omega)
        have hl0 : (0 : Int) < (m : Int) + 1 := by omega
        obtain ⟨w6, hw6⟩ : ∃ w6, w6 = wr.alloc (.cells #[.int .i64 (gi xs 0), .int .i64 (gi xs 1)] 26) := ⟨_, rfl⟩
        have k6 : w6.heap[wr.heap.size]? = some (.cells #[.int .i64 (gi xs 0), .int .i64 (gi xs 1)] 26 (0, 0)) := by rw [hw6]; exact heap_alloc_new wr _
        have B6 := Lib.hid (show Below wr.heap.size wr w6 by rw [hw6]; exact below_new wr _)
        have NW : Hid (∀ j u, ([.int .i64 (gi xs 0), .int .i64 (gi xs 1)] : List Value)[j]? = some u → w6.cell? ((⟨wr.heap.size, 0, none⟩ : Addr).add j) = some u) := by
          intro j u hu
          rw [Go.WideShapes.add_plain]
          rcases j with _ | _ | j
          · injection hu with hu; subst hu; exact cell_of_row w6 _ 0 _ _ _ k6
          · injection hu with hu; subst hu; exact cell_of_row w6 _ 1 _ _ _ k6
          · simp at hu
        have HW6 := Lib.hid hw6
        have O6 := Lib.hid (OX.out.below B6.out (Nat.le_refl _))
        have X6 := Lib.hid (XX.out.below B6.out (Nat.le_refl _))
        have R6 := Lib.hid (RX.out.trans (B6.out.mono RX.out.size))
        clear hw6 k6 OX
        go_wp2_with
          (at_builtin
           rw [← HW6.out]
           refine wpList_append_own_at _ rfl (.tmp 20) (.tmp 24) 24 rfl w2.heap.size 26 i0 (.agg #[.int .i64 0, .int .i64 0]) 2 16 Try.underlying24 hi0 hz0 hz1 hz2 rfl (by decide) _ j _ rfl O6.out ⟨wr.heap.size, 0, none⟩ 1 1 [.int .i64 (gi xs 0), .int .i64 (gi xs 1)] rfl rfl NW.out (by simp [Value.oneCell']) (by have := N12.out; unfold maxLen; omega) (by have := N12.out; omega) R6.out.size ?_
           intro v' w7 hown hgrow _ hat
           rw [show vals out ++ [Value.int .i64 (gi xs 0), .int .i64 (gi xs 1)] = vals (out ++ [gi xs 0, gi xs 1]) by simp [vals]] at hown
           obtain ⟨A7, c7, rfl, ho⟩ := or_of hown
           obtain ⟨g7, rfl, hg7, hg8⟩ := OR.pos ho (by omega)
           have R7 := Lib.hid (R6.out.grown hgrow (by exact R6.out.size) (fun k hk => by
             have hk' : some h1 = some k := hk
             injection hk' with e2
             have := (OR.lt O6.out).1
             omega))
           have X7 := Lib.hid (World.ownsRow.kept X6.out hgrow (.inr (by intro e; have e' : some g2 = some h1 := e; injection e' with e'; exact DX.out e'.symm)))
           have O7 := Lib.hid ho
           have D7 := Lib.hid (show g7 ≠ g2 by
             rcases hat with e | e
             · have e' : some g7 = some h1 := e
               injection e' with e'
               rw [e']; exact DX.out
             · have e' : some g7 = some w6.heap.size := e
               injection e' with e'
               have := (OR.lt X6.out).2
               omega)
           clear hown hgrow ho hg7 hg8 hat)
        clear O6 X6 R6 XX DX RX c0 c1'
        go_wp2_with fail
        refine (l4PopK_any g2 m c' xs w2.heap.size w7 (by have := N12.out; omega) R7.out.size X7.out).mono ?_
        rintro e w8 ⟨rfl, ho, hk⟩
        have X8 := Lib.hid ho
        have O8 := Lib.hid (O7.out.kept hk (fun g e => by injection e with e; injection e with e; subst e; have := D7.out; simp; omega))
        have R8 := Lib.hid (R7.out.trans (hk.below R7.out.size (fun b hb' => by simp at hb'; subst hb'; exact (OR.lt X7.out).1)))
        have UE : Hid ((out ++ [gi xs 0, gi xs 1]) ++ srt4 m (pop4 xs m) = srt4 n hs) := by
          show _ = _
          rw [← UX.out]; simp [srt4]
        clear ho hk X7 O7 R7
        go_wp2
        go_roundw
        case rel => exact ⟨j + 1, m, c7, g7, _, _, by omega, by go_num, by go_num, O8.out, X8.out, D7.out, UE.out, R8.out⟩
        case measure => simp [sliceLen]
  · have PE : Hid (sorted4 hs n = (v, [])) := by show _ = _; unfold sorted4; rw [if_pos (by rw [← hv]; exact h0), ← hv]
    have hv0 : (v != 0) = true := by simp [h0]
    obtain ⟨⟨y0, y1⟩, f0, f1⟩ := QS.out w3 R3.out
    clear hv
    go_wp2
    exact bodyPost_ret (results_cell_row rfl _ _ _ _ _ (0, 0) _ rfl (heap_setCell_same _ _ 1 _ _ _ (heap_setCell_same _ _ 0 _ _ _ (K2.out _ R3.out))) Try.underlying30 rfl (by kernel_rfl)) rfl (hans_code PE.out (((BB.out _ R3.out).setCell (p := ⟨w.heap.size, 0, none⟩) (by first | omega | simp) _).setCell (p := ⟨w.heap.size, 1, none⟩) (by first | omega | simp) _))

end Go.Proofs.Ytckapndpefkcgaa
