/-
  The program's heap that is pointed at: how the first one is taken out. No conditions beyond that the heap can be read.
-/
import Derived.BigRegion
import Derived.BigQuiet
import Derived.StillTailTactics
import Derived.Deep.RegionHeld3
import Derived.Laws.Tables
import Derived.Laws.CopyOwn
import Derived.Test.YtckapndpefkcgaaTk
import Derived.Test.YtckapndpefkcgaaImpl4e
import Derived.Test.YtckapndpefkcgaaMath4
import Derived.Test.YtckapndpefkcgaaKit4
set_option maxHeartbeats 1000000
namespace Go.Proofs.Ytckapndpefkcgaa
open List renaming getElem_toArray → zz1, getElem_cons_succ → zz2, getElem_cons_zero → zz3, setIfInBounds_toArray → zz4, set_cons_zero → zz5, set_cons_succ → zz6
open Go.RowKit
set_option maxRecDepth 100000

theorem HB.keepAll {w w' : World} {base hb n c : Nat} {A : Option Addr} {hs : List Int} (h : HB w base hb A n c hs) (hw : ∀ b, (b = hb ∨ A = some ⟨b, 0, none⟩) → w'.heap[b]? = w.heap[b]?) : HB w' base hb A n c hs :=
  ⟨(hw hb (.inl rfl)).trans h.box, h.own.keepAll fun g e => hw g (.inr e), h.hb0⟩

set_option maxHeartbeats 2000000 in
theorem pop_any (base hb g n c : Nat) (hs : List Int) (w : World) (hn : n ≤ 12) (h : HB w base hb (some ⟨g, 0, none⟩) (n + 1) c hs) :
    Calls Try.prog 61 #[.pointer (some ⟨hb, 0, none⟩)] w fun e w' => e = .returned (.agg #[.int .i64 (gi hs 0), .int .i64 (gi hs 1)]) ∧ HB w' base hb (some ⟨g, 0, none⟩) n c (pop4 hs n) ∧ Kept [g, hb] w w' := by
  obtain ⟨w1, hw1⟩ : ∃ w1, w1 = w.alloc (.cells #[.int .i64 0, .int .i64 0] 26) := ⟨_, rfl⟩
  have K1 := Lib.hid (show w1.heap[w.heap.size]? = some (.cells #[.int .i64 0, .int .i64 0] 26 (0, 0)) by rw [hw1]; exact heap_alloc_new w _)
  have B1 := Lib.hid (show Below w.heap.size w w1 by rw [hw1]; exact below_new w _)
  have H1 := Lib.hid (h.below B1.out (Nat.le_refl _))
  have Z1 := Lib.hid (show w1.heap.size = w.heap.size + 1 ∧ hb < w.heap.size ∧ g < w.heap.size from ⟨by rw [hw1]; simp, h.lt, (OR.lt h.own).2⟩)
  have CP := Lib.hid (OR.cap h.own)
  have HW1 := Lib.hid hw1
  clear hw1 h
  obtain ⟨q0, q1⟩ := H1.out.cells
  have c0 : w1.cell? ⟨g, 0, none⟩ = some (.int .i64 (gi hs 0)) := H1.out.own.cell (by omega)
  have c1 : w1.cell? ⟨g, 1, none⟩ = some (.int .i64 (gi hs 1)) := H1.out.own.cell (by omega)
  have wn : IntKind.i64.wrap (n : Int) = n := IntWalk.i64_in _ (by omega)
  have z0 : (0 : Int) < (n : Int) + 1 := by omega
  have z1 : (0 : Int) ≤ (n : Int) := by omega
  have z2 : (n : Int) < (n : Int) + 1 := by omega
  have z3 : (n : Int) ≤ (c : Int) := by have := CP.out; omega
  go_enter Try.func61, Try.ntmps61
  go_upto_region 1 with (fail)
  rw [← HW1.out]
  clear HW1
  have SS : Hid (∀ W, Below w1.heap.size w1 W → (W.cell? ⟨hb, 0, none⟩ = some (.slice (some ⟨g, 0, none⟩) (n + 1) c) ∧ W.cell? ⟨g, 0, none⟩ = some (.int .i64 (gi hs 0)) ∧ W.cell? ⟨g, 1, none⟩ = some (.int .i64 (gi hs 1)))) := fun W hW => by
    have hh := H1.out.below hW (Nat.le_refl _)
    exact ⟨hh.cells.1, hh.own.cell (by omega), hh.own.cell (by omega)⟩
  refine wp_region_held_drew (S := fun W => (W.cell? ⟨hb, 0, none⟩ = some (.slice (some ⟨g, 0, none⟩) (n + 1) c) ∧ W.cell? ⟨g, 0, none⟩ = some (.int .i64 (gi hs 0)) ∧ W.cell? ⟨g, 1, none⟩ = some (.int .i64 (gi hs 1)))) (by kernel_rfl) (⟨q0, c0, c1⟩) (fun hHeld => ?_)
  obtain ⟨v0, hv0⟩ : ∃ v0, v0 = w1.drew := ⟨_, rfl⟩
  have BL0 : Hid (Below w1.heap.size w1 v0) := by rw [hv0]; exact Below.drew (Below.refl _ _)
  rw [← hv0] at hHeld ⊢
  clear hv0
  refine tkH 0 ?_ rfl ?_ hHeld ?_; rotate_left; (intro w hSw; (try dsimp only at hSw); go_simp; try with_reducible rfl); try simp only [Act.put, zz1, zz2, zz3, zz4, zz5, zz6]
  refine tkH 1 ?_ rfl ?_ hHeld ?_; rotate_left; (intro w hSw; (try dsimp only at hSw); go_simp; try with_reducible rfl); try simp only [Act.put, zz1, zz2, zz3, zz4, zz5, zz6]
  refine tkH 2 ?_ rfl ?_ hHeld ?_; rotate_left; (intro w hSw; (try dsimp only at hSw); go_simp; try with_reducible rfl); try simp only [Act.put, zz1, zz2, zz3, zz4, zz5, zz6]
  refine tkH 3 ?_ rfl ?_ hHeld ?_; rotate_left; (intro w hSw; (try dsimp only at hSw); go_simp; try with_reducible rfl); try simp only [Act.put, zz1, zz2, zz3, zz4, zz5, zz6]
  refine tkH 4 ?_ rfl ?_ hHeld ?_; rotate_left; (intro w hSw; (try dsimp only at hSw); go_simp; try with_reducible rfl); try simp only [Act.put, zz1, zz2, zz3, zz4, zz5, zz6]
  refine tkH 5 ?_ rfl ?_ hHeld ?_; rotate_left; (intro w hSw; (try dsimp only at hSw); go_simp; try with_reducible rfl); try simp only [Act.put, zz1, zz2, zz3, zz4, zz5, zz6]
  refine tkH 6 ?_ rfl ?_ hHeld ?_; rotate_left; (intro w hSw; (try dsimp only at hSw); go_simp; try with_reducible rfl); try simp only [Act.put, zz1, zz2, zz3, zz4, zz5, zz6]
  refine tkH 7 ?_ rfl ?_ hHeld ?_; rotate_left; (intro w hSw; (try dsimp only at hSw); go_simp; try with_reducible rfl); try simp only [Act.put, zz1, zz2, zz3, zz4, zz5, zz6]
  refine tkH 8 ?_ rfl ?_ hHeld ?_; rotate_left; (intro w hSw; (try dsimp only at hSw); go_simp; try with_reducible rfl); try simp only [Act.put, zz1, zz2, zz3, zz4, zz5, zz6]
  refine tkH 9 ?_ rfl ?_ hHeld ?_; rotate_left; (intro w hSw; (try dsimp only at hSw); go_simp; try with_reducible rfl); try simp only [Act.put, zz1, zz2, zz3, zz4, zz5, zz6]
  refine tkH 10 ?_ rfl ?_ hHeld ?_; rotate_left; (intro w hSw; (try dsimp only at hSw); go_simp; try with_reducible rfl); try simp only [Act.put, zz1, zz2, zz3, zz4, zz5, zz6]
  refine tkH 11 ?_ rfl ?_ hHeld ?_; rotate_left; (intro w hSw; (try dsimp only at hSw); go_simp; try with_reducible rfl); try simp only [Act.put, zz1, zz2, zz3, zz4, zz5, zz6]
  refine wpAnyH_ready (rs := [12]) (by kernel_rfl) (by simp) ?_
  refine AllReadyH.cons (o := _) rfl (fun K0 hK0 => ?_) AllReadyH.nil
  go_simp
  obtain ⟨v1, hv⟩ : ∃ v1, v1 = v0.alloc (.cells #[.int .i64 0, .int .i64 0] 26) := ⟨_, rfl⟩
  obtain ⟨b3, hb3⟩ : ∃ b3, b3 = v0.heap.size := ⟨_, rfl⟩
  rw [← hv, ← hb3]
  have XB := Lib.hid (show v1.heap[b3]? = some (.cells #[.int .i64 0, .int .i64 0] 26 (0, 0)) by rw [hv, hb3]; exact heap_alloc_new v0 _)
  have BL1 := Lib.hid (show Below w1.heap.size w1 v1 by rw [hv]; exact BL0.out.alloc BL0.out.size _)
  have GB := Lib.hid (show w1.heap.size ≤ b3 by rw [hb3]; exact BL0.out.size)
  clear hv hb3
  refine hK0.out _ _ (SS.out _ BL1.out) (fun hHeld => ?_)
  clear hK0 K0
  try simp only [Act.put, zz1, zz2, zz3, zz4, zz5, zz6]
  refine wpAnyH_ready (rs := [13]) (by kernel_rfl) (by simp) ?_
  refine AllReadyH.cons (o := _) rfl (fun K0 hK0 => ?_) AllReadyH.nil
  clear hHeld
  rw [if_pos (by rfl)]
  refine wp_store_row 26 _ _ rfl (b3) _ rfl rfl 26 _ XB.out (by kernel_rfl) rfl (by simp [Value.oneCell']) ?_
  refine hK0.out _ _ (SS.out _ (below_setRow BL1.out GB.out _)) (fun hHeld => ?_)
  clear hK0 K0
  try simp only [Act.put, zz1, zz2, zz3, zz4, zz5, zz6]
  refine tkH 14 ?_ rfl ?_ hHeld ?_; rotate_left; (intro w hSw; (try dsimp only at hSw); go_simp; try with_reducible rfl); try simp only [Act.put, zz1, zz2, zz3, zz4, zz5, zz6]
  refine wpAnyH_done (by kernel_rfl) ?_ _
  go_wp2_with fail
  obtain ⟨w3, hw3⟩ : ∃ w3, w3 = v1.setRow b3 #[.int .i64 (gi hs 0), .int .i64 (gi hs 1)] := ⟨_, rfl⟩
  rw [← hw3]
  have X3 := Lib.hid (show w3.heap[b3]? = some (.cells #[.int .i64 (gi hs 0), .int .i64 (gi hs 1)] 26 (0, 0)) by rw [hw3]; exact setRow_heap _ _ _ _ _ _ XB.out)
  have B3 := Lib.hid (show Below w1.heap.size w1 w3 by rw [hw3]; exact below_setRow BL1.out GB.out _)
  clear hw3 q0 q1 c0 c1
  have H3 := Lib.hid (H1.out.below B3.out (Nat.le_refl _))
  obtain ⟨q0, q1⟩ := H3.out.cells
  have c0 : w3.cell? ⟨g, n * 2, none⟩ = some (.int .i64 (gi hs (n * 2))) := H3.out.own.cell (by omega)
  have c1 : w3.cell? ⟨g, n * 2 + 1, none⟩ = some (.int .i64 (gi hs (n * 2 + 1))) := H3.out.own.cell (by omega)
  have y0 : w3.cell? ⟨g, 0, none⟩ = some (.int .i64 (gi hs 0)) := H3.out.own.cell (by omega)
  have y1 : w3.cell? ⟨g, 1, none⟩ = some (.int .i64 (gi hs 1)) := H3.out.own.cell (by omega)
  have f0 := H3.out.own.frozen 0
  have f1 := H3.out.own.frozen 1
  have hne : hb ≠ g := Ne.symm H3.out.ne
  go_upto_region 2 with (fail)
  go_cut [5] from 7 (fun x wx => x = undef ∧ HB wx base hb (some ⟨g, 0, none⟩) (n + 1) c (se hs 0 (gi hs (n * 2)) (gi hs (n * 2 + 1))) ∧ Kept [g] w3 wx)
  case first => as_aux_lemma =>
    go_region
    all_goals
      go_wp2_with fail
      go_meet
      have far : ∀ b, b ≠ g → ((w3.setCell ⟨g, 0, none⟩ (.int .i64 (gi hs (n * 2)))).setCell ⟨g, 1, none⟩ (.int .i64 (gi hs (n * 2 + 1)))).heap[b]? = w3.heap[b]? := fun b hb =>
        (Below.heap_setCell _ ⟨g, _, none⟩ _ b hb).trans (Below.heap_setCell _ ⟨g, _, none⟩ _ b hb)
      exact ⟨rfl, ⟨(far hb hne).trans H3.out.box, ((H3.out.own.set 0 _).set 1 _).drewN 1, H3.out.hb0⟩, (((Kept.refl [g] w3).setCell (p := ⟨g, 0, none⟩) (by simp) _).setCell (p := ⟨g, 1, none⟩) (by simp) _).drewN 1⟩
  case rest => as_aux_lemma =>
    obtain ⟨rfl, hh, hkk⟩ := hcut
    have H4 := Lib.hid hh
    have R1 := Lib.hid (K1.out ▸ (B3.out.block w.heap.size (by have := Z1.out; omega)))
    have K4 := Lib.hid (show Kept [g, hb] w3 wc from hkk.mono (by simp))
    obtain ⟨q0, q1⟩ := hh.cells
    have f0 := frozen_of_row wc _ 0 _ _ hh.box
    have G3 := Lib.hid GB.out
    clear hh hkk H3 c0 c1 y0 y1 f1 SS BL0 BL1 XB H1
    go_upto_region 4 with (fail)
    obtain ⟨w5, hw5⟩ : ∃ w5, w5 = wc.setCell ⟨hb, 0, none⟩ (.slice (some ⟨g, 0, none⟩) n c) := ⟨_, rfl⟩
    rw [← hw5]
    have H5 := Lib.hid (show HB w5 base hb (some ⟨g, 0, none⟩) n c ((se hs 0 (gi hs (n * 2)) (gi hs (n * 2 + 1))).take (n * 2)) by rw [hw5]; exact HB.store H4.out.box H4.out.own.pop H4.out.hb0)
    have K5 := Lib.hid (show Kept [g, hb] w3 w5 by rw [hw5]; exact K4.out.setCell (p := ⟨hb, 0, none⟩) (by simp) _)
    clear hw5 q0 q1 f0 H4 K4
    have RB : Hid (∀ W, Kept [g, hb] w3 W → W.heap[w.heap.size]? = some (.cells #[.int .i64 0, .int .i64 0] 26 (0, 0)) ∧ W.heap[b3]? = some (.cells #[.int .i64 (gi hs 0), .int .i64 (gi hs 1)] 26 (0, 0))) := fun W hW => by
      have z := Z1.out; have g3 := G3.out; have s3 := B3.out.size
      exact ⟨(hW.2 w.heap.size (by omega) (by simp; omega)).trans ((B3.out.block w.heap.size (by omega)).trans K1.out), (hW.2 b3 (Array.getElem?_eq_some_iff.1 X3.out).1 (by simp; omega)).trans X3.out⟩
    have NB : Hid (∀ b, (b = hb ∨ (some ⟨g, 0, none⟩ : Option Addr) = some ⟨b, 0, none⟩) → b ≠ w.heap.size) := fun b hb' => by
      have z := Z1.out
      rcases hb' with rfl | e
      · omega
      · injection e with e
        injection e with e
        omega
    have KW : Hid (∀ W, Kept [g, hb] w3 W → Kept [g, hb] w W) := fun W hW => ((Kept.of_below B1.out [g, hb]).then_below B3.out).trans hW
    go_wp2_with fail
    refine (leastFrom_any base hb _ n c _ 0 _ (by omega) (by omega) H5.out (by omega)).mono ?_
    rintro e w6 ⟨rfl, hb6⟩
    have H6 := Lib.hid (H5.out.below hb6 (Nat.le_refl _))
    have K6 := Lib.hid (K5.out.then_below hb6)
    clear hb6 H5 K5
    go_wp2_with fail
    go_loopw [5, 6] (fun pl le wr => ∃ (k : Nat) (xs : List Int), (k < n ∨ n = 0) ∧ pl = .int .i64 (k : Int) ∧ le = .int .i64 ((lf4 xs n k : Nat) : Int) ∧ HB wr base hb (some ⟨g, 0, none⟩) n c xs ∧ down4 xs n k = pop4 hs n ∧ Kept [g, hb] w3 wr) (fun pl _ _ => n - (intOf pl).toNat)
    case atStart => exact ⟨0, _, by omega, by go_num, rfl, H6.out, rfl, K6.out⟩
    case round =>
      obtain ⟨k, xs, hk, rfl, rfl, hh, hu, hkk⟩ := hrel
      have HX := Lib.hid hh
      have UX := Lib.hid hu
      have KX := Lib.hid hkk
      clear hh hu hkk H6 K6
      obtain ⟨q, hq⟩ : ∃ q : Nat, q = lf4 xs n k := ⟨_, rfl⟩
      rw [← hq]
      by_cases he : q = k
      · have UE : Hid (xs = pop4 hs n) := by show _ = _; rw [← UX.out, down4_end (by rw [← hq]; exact he)]
        subst he
        clear hq
        obtain ⟨r0, r1⟩ := RB.out wr KX.out
        have RR := Lib.hid r0
        have x0 := cell_of_row wr _ 0 _ _ _ r0
        have x1 := cell_of_row wr _ 1 _ _ _ r0
        have y0 := cell_of_row wr _ 0 _ _ _ r1
        have y1 := cell_of_row wr _ 1 _ _ _ r1
        have f0 := frozen_of_row wr _ 0 _ _ r0
        have f1 := frozen_of_row wr _ 1 _ _ r0
        simp at x0 x1 y0 y1
        clear r0 r1
        go_wp2
        exact bodyPost_ret (results_cell_row rfl _ _ _ _ _ (0, 0) _ rfl (heap_setCell_same _ _ 1 _ _ _ (heap_setCell_same _ _ 0 _ _ _ RR.out)) Try.underlying26 rfl (by kernel_rfl)) rfl ⟨rfl, UE.out ▸ HX.out.keepAll (fun b hb' => (Below.heap_setCell _ ⟨w.heap.size, 1, none⟩ _ _ (NB.out b hb')).trans (Below.heap_setCell _ ⟨w.heap.size, 0, none⟩ _ _ (NB.out b hb'))), ((KW.out _ KX.out).setNew (p := ⟨w.heap.size, 0, none⟩) (Nat.le_refl _) _).setNew (p := ⟨w.heap.size, 1, none⟩) (Nat.le_refl _) _⟩
      · have hne : ((q : Int) != (k : Int)) = true := by simp; omega
        have UE : Hid (down4 (swp xs k q) n q = pop4 hs n) := by
          have e := down4_go (hs := xs) (n := n) (i := k) (by rw [← hq]; exact he)
          rw [← hq] at e
          exact e.symm.trans UX.out
        have HQ := Lib.hid (show k < q ∧ q < n by have := lf4_cases xs n k; omega)
        clear hq he hk
        go_wp2_with fail
        refine (swap_any base hb g n c xs k q _ HX.out (by have := HQ.out; omega) (by have := HQ.out; omega) (by have := HQ.out; omega)).mono ?_
        rintro e w7 ⟨rfl, hh, hkk⟩
        have H7 := Lib.hid hh
        have K7 := Lib.hid (KX.out.trans (hkk.mono (gs' := [g, hb]) (by simp)))
        clear hh hkk HX KX
        go_wp2_with fail
        refine (leastFrom_any base hb _ n c _ q _ (by omega) (by have := HQ.out; omega) H7.out (by have := HQ.out; omega)).mono ?_
        rintro e w8 ⟨rfl, hb8⟩
        have H8 := Lib.hid (H7.out.below hb8 (Nat.le_refl _))
        have K8 := Lib.hid (K7.out.then_below hb8)
        clear hb8 H7 K7
        go_wp2
        go_roundw
        case rel => exact ⟨q, _, by have := HQ.out; omega, rfl, rfl, H8.out, UE.out, K8.out⟩
        case measure => have := HQ.out; simp [intOf]; omega

end Go.Proofs.Ytckapndpefkcgaa
