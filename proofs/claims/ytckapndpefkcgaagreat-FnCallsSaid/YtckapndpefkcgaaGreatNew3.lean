/-
  NewKernel, the model's and the program's: a code, or a kernel of the call's own. No conditions.
-/
import Derived.Deep.RegionHeld3
import Derived.Test.YtckapndpefkcgaaGreatSpec3n
import Derived.Test.YtckapndpefkcgaaGreatKans3
import Derived.Test.YtckapndpefkcgaaGreatImpl1d
import Derived.Test.YtckapndpefkcgaaGreatImpl3a
import Derived.Test.YtckapndpefkcgaaGreatU8s
set_option maxHeartbeats 1000000
namespace Go.Proofs.YtckapndpefkcgaaGreat
open List renaming getElem_toArray → zz1, getElem_cons_succ → zz2, getElem_cons_zero → zz3, setIfInBounds_toArray → zz4, set_cons_zero → zz5, set_cons_succ → zz6
open Go.RowKit
set_option maxRecDepth 100000

def nk (m : Int) : Int × Ker := if (new1 m).1 ≠ 0 then ((new1 m).1, zeroKer) else (0, ⟨(new1 m).2, [false, false, false, false], List.replicate 16 0, 0, -1⟩)
theorem new1_code (m : Int) : (1 ≤ m ∧ m ≤ 12 ∧ (new1 m).1 = 0) ∨ ((new1 m).1 = 2 ∧ nk m = (2, zeroKer)) := by
  by_cases h : m < 1 ∨ 12 < m
  · right
    have e : new1 m = (2, []) := by unfold new1; rw [if_pos h]
    exact ⟨by rw [e], by unfold nk; rw [e]; rfl⟩
  · left
    exact ⟨by omega, by omega, by unfold new1; rw [if_neg h]⟩
theorem nk_zero {m : Int} (h : (new1 m).1 = 0) : nk m = (0, ⟨(new1 m).2, [false, false, false, false], List.replicate 16 0, 0, -1⟩) := by unfold nk; rw [if_neg (fun hh => hh h)]
set_option maxHeartbeats 2000000 in
theorem specNewKernel_any (m : Int) (w : World) : Calls Tryz.prog 42 #[.int .i64 m] w (KAns (nk m).1 (nk m).2 [] w) := by
  obtain ⟨w1, hW1⟩ : ∃ w1, w1 = w.alloc (.cells #[.int .i64 0, .slice none 0 0, .slice none 0 0, .slice none 0 0, .int .i64 0, .int .i64 0, .slice none 0 0] 61) := ⟨_, rfl⟩
  have X0 : Hid (BoxN 7 w.heap.size 61 w w1) := by rw [hW1]; exact BoxN.new w #[.int .i64 0, .slice none 0 0, .slice none 0 0, .slice none 0 0, .int .i64 0, .int .i64 0, .slice none 0 0] _
  have SZ : Hid (w1.heap.size = w.heap.size + 1) := by show _ = _; rw [hW1]; simp
  have fl0 := run_fr0
  have CD := Lib.hid (new1_code m)
  go_enter Tryz.func42, Tryz.ntmps42
  go_wp2_with fail
  rw [← hW1]
  clear hW1
  refine (specNewVector_any m _).mono ?_
  rintro e w2 ⟨A1, n1, c1, rfl, _, _, _, hb⟩
  have X2 := Lib.hid (X0.out.below hb)
  clear hb
  rcases CD.out with ⟨m1, m2, hz⟩ | ⟨hz, hk⟩
  · rw [hz]
    have NK := Lib.hid (nk_zero hz)
    clear hz
    go_wp2_with fail
    refine (l3New_any m _ ⟨m1, m2⟩).mono ?_
    rintro e w3 ⟨p, rfl, ho, ⟨g1, g2, g3, g4, g5, g6⟩, hb⟩
    have X3 := Lib.hid (X2.out.below hb)
    have lt2 := X2.out.lt
    have FA := Lib.hid (kans_box X3.out ho ⟨by omega, g4⟩ ⟨by omega, g5⟩ ⟨by omega, g6⟩)
    have c := fun j (hj : j < 7) => X3.out.cell j hj
    have f := fun j => X3.out.frozen j
    have c0 := c 0 (by omega); have c1' := c 1 (by omega); have c2 := c 2 (by omega); have c3 := c 3 (by omega); have c4 := c 4 (by omega); have c5 := c 5 (by omega); have c6 := c 6 (by omega)
    have f0 := f 0; have f1 := f 1; have f2 := f 2; have f3 := f 3; have f4 := f 4; have f5 := f 5; have f6 := f 6
    clear c f hb ho g1 g2 g3 g4 g5 g6 lt2
    go_wp2
    rw [NK.out]
    exact bodyPost_ret (results_cell_row rfl _ _ w.heap.size _ _ (0, 0) _ rfl FA.out.1 Tryz.underlying61 rfl (by kernel_rfl)) rfl FA.out.2
  · rw [hz]
    have NK := Lib.hid hk
    clear hz hk
    have FA := Lib.hid (kans_code_box 2 X2.out)
    have c := fun j (hj : j < 7) => X2.out.cell j hj
    have f := fun j => X2.out.frozen j
    have c0 := c 0 (by omega); have c1' := c 1 (by omega); have c2 := c 2 (by omega); have c3 := c 3 (by omega); have c4 := c 4 (by omega); have c5 := c 5 (by omega); have c6 := c 6 (by omega)
    have f0 := f 0; have f1 := f 1; have f2 := f 2; have f3 := f 3; have f4 := f 4; have f5 := f 5; have f6 := f 6
    clear c f
    go_wp2
    rw [NK.out]
    exact bodyPost_ret (results_cell_row rfl _ _ w.heap.size _ _ (0, 0) _ rfl FA.out.1 Tryz.underlying61 rfl (by kernel_rfl)) rfl FA.out.2

inductive NKS (b s : Nat) (A1 : Option Addr) (n1 c1 : Nat) (w W : World) : Prop where
  | intro (k : W.heap[b]? = some (.cells #[.int .i64 0, .slice A1 n1 c1] 49 (0, 0))) (h : BoxN 7 s 61 w W) (ne : b ≠ s) : NKS b s A1 n1 c1 w W
section
variable {b s n1 c1 : Nat} {A1 : Option Addr} {w W : World}
theorem NKS.box (h : NKS b s A1 n1 c1 w W) : BoxN 7 s 61 w W := by cases h; assumption
theorem NKS.drew (h : NKS b s A1 n1 c1 w W) : NKS b s A1 n1 c1 w W.drew := by cases h with | intro k h ne => exact ⟨k, h.drew, ne⟩
theorem NKS.alloc (h : NKS b s A1 n1 c1 w W) (o : Obj) : NKS b s A1 n1 c1 w (W.alloc o) := by
  cases h with | intro k h ne => exact ⟨(Below.heap_alloc W o b (Array.getElem?_eq_some_iff.1 k).1).trans k, h.alloc o, ne⟩
theorem NKS.set (h : NKS b s A1 n1 c1 w W) (j : Nat) (v : Value) : NKS b s A1 n1 c1 w (W.setCell ⟨s, j, none⟩ v) := by
  cases h with | intro k h ne => exact ⟨(Below.heap_setCell W ⟨s, j, none⟩ v b ne).trans k, h.set j v, ne⟩
end
def NewR (m : Int) (w W : World) : Prop := ∃ p : Kp, W.heap[w.heap.size]? = some (.cells #[.int .i64 0, .slice p.A1 p.n1 p.c1, .slice p.A2 4 p.c2, .slice p.A3 4 p.c3, .int .i64 0, .int .i64 (-1), .slice none 0 0] 61 (0, 0)) ∧
  KAns 0 ⟨(new1 m).2, [false, false, false, false], List.replicate 16 0, 0, -1⟩ [] w (.returned (.agg #[.int .i64 0, .slice p.A1 p.n1 p.c1, .slice p.A2 4 p.c2, .slice p.A3 4 p.c3, .int .i64 0, .int .i64 (-1), .slice none 0 0])) W

theorem ROwn.drew {w : World} {lo hi : Nat} {p : Rp} {K : Ker} {ns : List Int} (h : ROwn w lo hi p K ns) : ROwn w.drew lo hi p K ns :=
  ⟨h.l1, h.l2, h.l3, h.l4, h.nil1, h.m1, h.m2, h.m3, h.m4, h.d12, h.d13, h.d14, h.d23, h.d24, h.d34, h.b1, h.b2, h.b3, h.b4⟩
theorem KAns.drew {q : Int} {K : Ker} {ns : List Int} {w w' : World} {e : Ending} (h : KAns q K ns w e w') : KAns q K ns w e w'.drew := by
  obtain ⟨p, he, ho, hb⟩ := h
  exact ⟨p, he, ho.drew, hb.drew⟩
theorem NewR.drew {m : Int} {w W : World} (h : NewR m w W) : NewR m w W.drew := by
  obtain ⟨p, hk, ha⟩ := h
  exact ⟨p, hk, ha.drew⟩

set_option maxHeartbeats 30000000 in
theorem implNewKernel_any (m : Int) (w : World) : Calls Tryz.prog 36 #[.int .i64 m] w (KAns (nk m).1 (nk m).2 [] w) := by
  obtain ⟨w1, hW1⟩ : ∃ w1, w1 = w.alloc (.cells #[.int .i64 0, .slice none 0 0, .slice none 0 0, .slice none 0 0, .int .i64 0, .int .i64 0, .slice none 0 0] 61) := ⟨_, rfl⟩
  have X0 : Hid (BoxN 7 w.heap.size 61 w w1) := by rw [hW1]; exact BoxN.new w #[.int .i64 0, .slice none 0 0, .slice none 0 0, .slice none 0 0, .int .i64 0, .int .i64 0, .slice none 0 0] _
  have SZ : Hid (w1.heap.size = w.heap.size + 1) := by show _ = _; rw [hW1]; simp
  have CD := Lib.hid (new1_code m)
  have hmk2 := run_make_b4
  have hmk3 := run_make_a4
  go_enter Tryz.func36, Tryz.ntmps36
  go_wp2_with fail
  rw [← hW1]
  clear hW1
  refine (implNewVector_any m _).mono ?_
  rintro e w2 ⟨A1, n1, c1, rfl, hl, hn, hmm, hb⟩
  have X2 := Lib.hid (X0.out.below hb)
  have Z2 := Lib.hid hb.size
  have HM := Lib.hid hmm; have HL := Lib.hid hl; have HN := Lib.hid hn
  clear hb hmm hl hn
  rcases CD.out with ⟨m1, m2, hz⟩ | ⟨hz, hk⟩
  · rw [hz]
    have NK := Lib.hid (nk_zero hz)
    clear hz
    obtain ⟨w3, hW3⟩ : ∃ w3, w3 = w2.alloc (.cells #[.int .i64 0, .slice A1 n1 c1] 49) := ⟨_, rfl⟩
    have k3 : w3.heap[w2.heap.size]? = some (.cells #[.int .i64 0, .slice A1 n1 c1] 49 (0, 0)) := by rw [hW3]; exact heap_alloc_new w2 _
    have X3 : Hid (BoxN 7 w.heap.size 61 w w3) := by rw [hW3]; exact X2.out.alloc _
    have B3 : Hid (Below w2.heap.size w2 w3) := by rw [hW3]; exact below_new w2 _
    have Z3 : Hid (w3.heap.size = w2.heap.size + 1) := by show _ = _; rw [hW3]; simp
    have N3 : Hid (NKS w2.heap.size w.heap.size A1 n1 c1 w w3) := ⟨k3, X3.out, by have := X2.out.lt; omega⟩
    have KS : Hid (∀ W, NKS w2.heap.size w.heap.size A1 n1 c1 w W → (W.cell? ⟨w2.heap.size, 1, none⟩ = some (.slice A1 n1 c1) ∧ NKS w2.heap.size w.heap.size A1 n1 c1 w W)) := fun W h => by
      obtain ⟨k, hx, _⟩ := id h
      exact ⟨cell_of_row W _ 1 _ _ _ k, h⟩
    have LT := Lib.hid X2.out.lt
    have FIN : Hid (∀ (W : World) (g2 g3 : Nat), BoxN 7 w.heap.size 61 w W → Below w2.heap.size w2 W → W.heap[g2]? = some (.cells b4c 4 (0, 0)) → W.heap[g3]? = some (.cells a4c 68 (0, 0)) → w2.heap.size ≤ g2 → w2.heap.size ≤ g3 → g2 ≠ g3 → g2 < W.heap.size → g3 < W.heap.size →
        NewR m w (((((((W.setCell ⟨w.heap.size, 0, none⟩ (.int .i64 0)).setCell ⟨w.heap.size, 1, none⟩ (.slice A1 n1 c1)).setCell ⟨w.heap.size, 2, none⟩ (.slice (some ⟨g2, 0, none⟩) 4 4)).setCell ⟨w.heap.size, 3, none⟩ (.slice (some ⟨g3, 0, none⟩) 4 4)).setCell ⟨w.heap.size, 4, none⟩ (.int .i64 0)).setCell ⟨w.heap.size, 5, none⟩ (.int .i64 (-1))).setCell ⟨w.heap.size, 6, none⟩ (.slice none 0 0))) := by
      intro W g2 g3 hx hb k2 k3 l2 l3 d23 s2 s3
      have hpos : 1 ≤ n1 := by rw [← HL.out]; unfold new1; rw [if_neg (by omega)]; simp; omega
      obtain ⟨g1, u1, u2, hm1⟩ := HM.out.one' hpos
      have hm1 := hm1.below hb (by omega)
      have z := hb.size
      have lt := LT.out
      have z1 := SZ.out
      have ho : KOwn W ⟨A1, n1, c1, some ⟨g2, 0, none⟩, 4, some ⟨g3, 0, none⟩, 4, g1, g2, g3⟩ ⟨(new1 m).2, [false, false, false, false], List.replicate 16 0, 0, -1⟩ :=
        ⟨HL.out, rfl, by simp, HN.out, hm1, .inr ⟨g2, 0, rfl, Nat.le_refl _, Nat.lt_succ_self _, row_b4_of k2⟩, .inr ⟨g3, 0, rfl, Nat.le_refl _, Nat.lt_succ_self _, row_a4_of k3⟩, by show g1 ≠ g2; omega, by show g1 ≠ g3; omega, d23⟩
      have fa := kans_box hx ho ⟨by show w.heap.size < g1; omega, by show g1 < W.heap.size; omega⟩ ⟨by show w.heap.size < g2; omega, s2⟩ ⟨by show w.heap.size < g3; omega, s3⟩
      exact ⟨⟨A1, n1, c1, some ⟨g2, 0, none⟩, 4, some ⟨g3, 0, none⟩, 4, g1, g2, g3⟩, fa.1, fa.2⟩
    go_upto_region 4 with (fail)
    rw [← hW3]
    clear hW3 k3
    go_cut [2] from 5 (fun x wx => x = .pointer (some ⟨w.heap.size, 0, none⟩) ∧ NewR m w wx)
    case first => as_aux_lemma =>
      have hmk2 := run_make_b4
      have hmk3 := run_make_a4
      refine wp_region_held_drew (S := fun W => (W.cell? ⟨w2.heap.size, 1, none⟩ = some (.slice A1 n1 c1) ∧ NKS w2.heap.size w.heap.size A1 n1 c1 w W)) (by kernel_rfl) (KS.out _ N3.out.drew) (fun hHeld => ?_)
      obtain ⟨w4, hw4⟩ : ∃ w4, w4 = w3.drew := ⟨_, rfl⟩
      have N4 : Hid (NKS w2.heap.size w.heap.size A1 n1 c1 w w4) := by rw [hw4]; exact N3.out.drew
      have B4 : Hid (Below w2.heap.size w2 w4) := by rw [hw4]; exact B3.out.drew
      have Z4 : Hid (w4.heap.size = w2.heap.size + 1) := by show _ = _; rw [hw4]; exact Z3.out
      rw [← hw4] at hHeld ⊢
      clear hw4
      refine tkH 0 ?_ rfl ?_ hHeld ?_; rotate_left; (intro w hSw; (try dsimp only at hSw); go_simp; try with_reducible rfl); try simp only [Act.put, zz4, zz5, zz6]
      refine tkH 1 ?_ rfl ?_ hHeld ?_; rotate_left; (intro w hSw; (try dsimp only at hSw); go_simp; try with_reducible rfl); try simp only [Act.put, zz4, zz5, zz6]
      refine wpAnyH_ready (rs := [2, 3]) (by kernel_rfl) (by simp) ?_
      refine AllReadyH.cons (o := _) rfl (fun K hK => ?_) (AllReadyH.cons (o := _) rfl (fun K hK => ?_) AllReadyH.nil)
      · go_simp
        refine hK.out _ _ (KS.out _ (N4.out.alloc _)) (fun hHeld => ?_)
        clear hK K
        try simp only [Act.put, zz4, zz5, zz6]
        refine wpAnyH_ready (rs := [3]) (by kernel_rfl) (by simp) ?_
        refine AllReadyH.cons (o := _) rfl (fun K hK => ?_) AllReadyH.nil
        go_simp
        refine hK.out _ _ (KS.out _ ((N4.out.alloc _).alloc _)) (fun hHeld => ?_)
        clear hK K
        try simp only [Act.put, zz4, zz5, zz6]
        refine tkH 4 ?_ rfl ?_ hHeld ?_; rotate_left; (intro w hSw; (try dsimp only at hSw); go_simp; try with_reducible rfl); try simp only [Act.put, zz4, zz5, zz6]
        refine tkH 5 ?_ rfl ?_ hHeld ?_; rotate_left; (intro w hSw; (try dsimp only at hSw); go_simp; try with_reducible rfl); try simp only [Act.put, zz4, zz5, zz6]
        refine wpAnyH_ready (rs := [6]) (by kernel_rfl) (by simp) ?_
        refine AllReadyH.cons (o := _) rfl (fun K hK => ?_) AllReadyH.nil
        obtain ⟨W, hW⟩ : ∃ W, W = (w4.alloc (.cells b4c 4)).alloc (.cells a4c 68) := ⟨_, rfl⟩
        have NW : Hid (NKS w2.heap.size w.heap.size A1 n1 c1 w W) := by rw [hW]; exact (N4.out.alloc _).alloc _
        have BW : Hid (Below w2.heap.size w2 W) := by rw [hW]; exact Below.grow (Below.grow B4.out _) _
        have k2 : W.heap[w4.heap.size]? = some (.cells b4c 4 (0, 0)) := by rw [hW]; exact heap_first _ _ _
        have k3 : W.heap[w4.heap.size + 1]? = some (.cells a4c 68 (0, 0)) := by rw [hW]; exact heap_second _ _ _
        have sW : W.heap.size = w4.heap.size + 2 := by rw [hW]; simp
        rw [← hW]
        have c := fun j (hj : j < 7) => NW.out.box.cell j hj
        have f := fun j => NW.out.box.frozen j
        have c0 := c 0 (by omega); have c1' := c 1 (by omega); have c2 := c 2 (by omega); have c3 := c 3 (by omega); have c4 := c 4 (by omega); have c5 := c 5 (by omega); have c6 := c 6 (by omega)
        have f0 := f 0; have f1 := f 1; have f2 := f 2; have f3 := f 3; have f4 := f 4; have f5 := f 5; have f6 := f 6
        have FA := Lib.hid (FIN.out W _ _ NW.out.box BW.out k2 k3 (by have := Z4.out; omega) (by have := Z4.out; omega) (by omega) (by omega) (by omega))
        have NF := Lib.hid (((((((NW.out.set 0 (.int .i64 0)).set 1 (.slice A1 n1 c1)).set 2 (.slice (some ⟨w4.heap.size, 0, none⟩) 4 4)).set 3 (.slice (some ⟨w4.heap.size + 1, 0, none⟩) 4 4)).set 4 (.int .i64 0)).set 5 (.int .i64 (-1))).set 6 (.slice none 0 0))
        clear c f hW k2 k3 sW FIN hHeld
        go_simp
        refine hK.out _ _ (KS.out _ NF.out) (fun hHeld => ?_)
        clear hK K
        refine wpAnyH_done (by kernel_rfl) ?_ _
        go_wp2_with fail
        go_meet
        with_reducible exact ⟨rfl, FA.out⟩
      · go_simp
        refine hK.out _ _ (KS.out _ (N4.out.alloc _)) (fun hHeld => ?_)
        clear hK K
        try simp only [Act.put, zz4, zz5, zz6]
        refine wpAnyH_ready (rs := [2]) (by kernel_rfl) (by simp) ?_
        refine AllReadyH.cons (o := _) rfl (fun K hK => ?_) AllReadyH.nil
        go_simp
        refine hK.out _ _ (KS.out _ ((N4.out.alloc _).alloc _)) (fun hHeld => ?_)
        clear hK K
        try simp only [Act.put, zz4, zz5, zz6]
        refine tkH 4 ?_ rfl ?_ hHeld ?_; rotate_left; (intro w hSw; (try dsimp only at hSw); go_simp; try with_reducible rfl); try simp only [Act.put, zz4, zz5, zz6]
        refine tkH 5 ?_ rfl ?_ hHeld ?_; rotate_left; (intro w hSw; (try dsimp only at hSw); go_simp; try with_reducible rfl); try simp only [Act.put, zz4, zz5, zz6]
        refine wpAnyH_ready (rs := [6]) (by kernel_rfl) (by simp) ?_
        refine AllReadyH.cons (o := _) rfl (fun K hK => ?_) AllReadyH.nil
        obtain ⟨W, hW⟩ : ∃ W, W = (w4.alloc (.cells a4c 68)).alloc (.cells b4c 4) := ⟨_, rfl⟩
        have NW : Hid (NKS w2.heap.size w.heap.size A1 n1 c1 w W) := by rw [hW]; exact (N4.out.alloc _).alloc _
        have BW : Hid (Below w2.heap.size w2 W) := by rw [hW]; exact Below.grow (Below.grow B4.out _) _
        have k2 : W.heap[w4.heap.size + 1]? = some (.cells b4c 4 (0, 0)) := by rw [hW]; exact heap_second _ _ _
        have k3 : W.heap[w4.heap.size]? = some (.cells a4c 68 (0, 0)) := by rw [hW]; exact heap_first _ _ _
        have sW : W.heap.size = w4.heap.size + 2 := by rw [hW]; simp
        rw [← hW]
        have c := fun j (hj : j < 7) => NW.out.box.cell j hj
        have f := fun j => NW.out.box.frozen j
        have c0 := c 0 (by omega); have c1' := c 1 (by omega); have c2 := c 2 (by omega); have c3 := c 3 (by omega); have c4 := c 4 (by omega); have c5 := c 5 (by omega); have c6 := c 6 (by omega)
        have f0 := f 0; have f1 := f 1; have f2 := f 2; have f3 := f 3; have f4 := f 4; have f5 := f 5; have f6 := f 6
        have FA := Lib.hid (FIN.out W _ _ NW.out.box BW.out k2 k3 (by have := Z4.out; omega) (by have := Z4.out; omega) (by omega) (by omega) (by omega))
        have NF := Lib.hid (((((((NW.out.set 0 (.int .i64 0)).set 1 (.slice A1 n1 c1)).set 2 (.slice (some ⟨w4.heap.size + 1, 0, none⟩) 4 4)).set 3 (.slice (some ⟨w4.heap.size, 0, none⟩) 4 4)).set 4 (.int .i64 0)).set 5 (.int .i64 (-1))).set 6 (.slice none 0 0))
        clear c f hW k2 k3 sW FIN hHeld
        go_simp
        refine hK.out _ _ (KS.out _ NF.out) (fun hHeld => ?_)
        clear hK K
        refine wpAnyH_done (by kernel_rfl) ?_ _
        go_wp2_with fail
        go_meet
        with_reducible exact ⟨rfl, FA.out⟩
    case rest =>
      obtain ⟨rfl, p, hk, hkans⟩ := hcut
      have FA := Lib.hid hkans
      have HK := Lib.hid hk
      clear hk hkans
      go_wp2
      rw [NK.out]
      exact bodyPost_ret (results_cell_row rfl _ _ w.heap.size _ _ (0, 0) _ rfl HK.out Tryz.underlying61 rfl (by kernel_rfl)) rfl FA.out
  · rw [hz]
    have NK := Lib.hid hk
    clear hz hk
    have FA := Lib.hid (kans_code_box 2 (X2.out.alloc (.cells #[.int .i64 2, .slice A1 n1 c1] 49)))
    have X3 := Lib.hid (X2.out.alloc (.cells #[.int .i64 2, .slice A1 n1 c1] 49))
    have c := fun j (hj : j < 7) => X3.out.cell j hj
    have f := fun j => X3.out.frozen j
    have c0 := c 0 (by omega); have c1' := c 1 (by omega); have c2 := c 2 (by omega); have c3 := c 3 (by omega); have c4 := c 4 (by omega); have c5 := c 5 (by omega); have c6 := c 6 (by omega)
    have f0 := f 0; have f1 := f 1; have f2 := f 2; have f3 := f 3; have f4 := f 4; have f5 := f 5; have f6 := f 6
    clear c f
    go_wp2
    rw [NK.out]
    exact bodyPost_ret (results_cell_row rfl _ _ w.heap.size _ _ (0, 0) _ rfl FA.out.1 Tryz.underlying61 rfl (by kernel_rfl)) rfl FA.out.2

end Go.Proofs.YtckapndpefkcgaaGreat
