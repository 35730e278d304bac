/-
  The walk of FnExactSameKernels: whatever the two kernels that came in, it returns true.
-/
import Derived.Test.YteigjjgekkcfkaaKit3c
import Derived.Test.YteigjjgekkcfkaaKernelFaultW
import Derived.Test.YteigjjgekkcfkaaSpec3s
import Derived.Test.YteigjjgekkcfkaaImpl3c
namespace Go.Proofs.Yteigjjgekkcfkaa
open Go.RowKit
set_option maxRecDepth 100000

theorem szk_le (left : Int) (a b c : Nat) (h0 : 0 ≤ left) : szk left a b c ≤ left ∧ (0 ≤ szk left a b c → (a : Int) + b + c ≤ left) := by
  unfold szk
  split
  · omega
  · split
    · omega
    · split
      · omega
      · omega

set_option maxHeartbeats 8000000 in
theorem walkSameKernels (A1 : Option Addr) (n1 c1 : Nat) (A2 : Option Addr) (n2 c2 : Nat) (A3 : Option Addr) (n3 c3 : Nat) (A1' : Option Addr) (n1' c1' : Nat) (A2' : Option Addr) (n2' c2' : Nat) (A3' : Option Addr) (n3' c3' : Nat) (K L : Ker) (w : World) (h : KRead w 0 w.heap.size A1 n1 A2 n2 A3 n3 K) (h' : KRead w 0 w.heap.size A1' n1' A2' n2' A3' n3' L)
    (b1 : n1 ≤ 9223372036854775807) (b2 : n2 ≤ 9223372036854775807) (b3 : n3 ≤ 9223372036854775807) (d1 : n1' ≤ 9223372036854775807) (d2 : n2' ≤ 9223372036854775807) (d3 : n3' ≤ 9223372036854775807) :
    Calls Try.prog 8 #[.agg #[.slice A1 n1 c1, .slice A2 n2 c2, .slice A3 n3 c3, .int .i64 K.tick, .int .i64 K.run], .agg #[.slice A1' n1' c1', .slice A2' n2' c2', .slice A3' n3' c3', .int .i64 L.tick, .int .i64 L.run]] w fun e w' => e = .returned (.bool true) ∧ Below w.heap.size w w' := by
  obtain ⟨w1, hW1⟩ : ∃ w1, w1 = (w.alloc (.cells #[.slice A1 n1 c1, .slice A2 n2 c2, .slice A3 n3 c3, .int .i64 K.tick, .int .i64 K.run] 26)).alloc (.cells #[.slice A1' n1' c1', .slice A2' n2' c2', .slice A3' n3' c3', .int .i64 L.tick, .int .i64 L.run] 26) := ⟨_, rfl⟩
  have k1 : w1.heap[w.heap.size]? = some (.cells #[.slice A1 n1 c1, .slice A2 n2 c2, .slice A3 n3 c3, .int .i64 K.tick, .int .i64 K.run] 26 (0, 0)) := by rw [hW1]; exact heap_alloc2_old w _ _
  have k2 : w1.heap[w.heap.size + 1]? = some (.cells #[.slice A1' n1' c1', .slice A2' n2' c2', .slice A3' n3' c3', .int .i64 L.tick, .int .i64 L.run] 26 (0, 0)) := by rw [hW1]; exact heap_alloc2_new w _ _
  have B1 : Hid (Below w.heap.size w w1) := by rw [hW1]; exact (below_new w _).alloc (by simp) _
  have sz : w1.heap.size = w.heap.size + 2 := by rw [hW1]; simp
  have SZ := Lib.hid sz
  have RK := Lib.hid ((h.below B1.out (Nat.le_refl _)).wide (Nat.le_refl 0) (show w.heap.size ≤ w1.heap.size by omega))
  have RL := Lib.hid ((h'.below B1.out (Nat.le_refl _)).wide (Nat.le_refl 0) (show w.heap.size ≤ w1.heap.size by omega))
  have HLK := Lib.hid h.1
  have HLL := Lib.hid h'.1
  have QS : Hid (∀ W, Below w1.heap.size w1 W → (W.cell? ⟨w.heap.size, 0, none⟩ = some (.slice A1 n1 c1) ∧ W.cell? ⟨w.heap.size, 1, none⟩ = some (.slice A2 n2 c2) ∧ W.cell? ⟨w.heap.size, 2, none⟩ = some (.slice A3 n3 c3) ∧ W.cell? ⟨w.heap.size, 3, none⟩ = some (.int .i64 K.tick) ∧ W.cell? ⟨w.heap.size, 4, none⟩ = some (.int .i64 K.run)) ∧ (W.cell? ⟨w.heap.size + 1, 0, none⟩ = some (.slice A1' n1' c1') ∧ W.cell? ⟨w.heap.size + 1, 1, none⟩ = some (.slice A2' n2' c2') ∧ W.cell? ⟨w.heap.size + 1, 2, none⟩ = some (.slice A3' n3' c3') ∧ W.cell? ⟨w.heap.size + 1, 3, none⟩ = some (.int .i64 L.tick) ∧ W.cell? ⟨w.heap.size + 1, 4, none⟩ = some (.int .i64 L.run))) := fun W hB => by
    have j1 := (hB.block w.heap.size (by omega)).trans k1
    have j2 := (hB.block (w.heap.size + 1) (by omega)).trans k2
    exact ⟨⟨cell_of_row W _ 0 _ _ _ j1, cell_of_row W _ 1 _ _ _ j1, cell_of_row W _ 2 _ _ _ j1, cell_of_row W _ 3 _ _ _ j1, cell_of_row W _ 4 _ _ _ j1⟩, ⟨cell_of_row W _ 0 _ _ _ j2, cell_of_row W _ 1 _ _ _ j2, cell_of_row W _ 2 _ _ _ j2, cell_of_row W _ 3 _ _ _ j2, cell_of_row W _ 4 _ _ _ j2⟩⟩
  have R0 : Hid (Below w1.heap.size w1 w1) := Below.refl _ _
  have FIN : Hid (∀ W, Below w1.heap.size w1 W → Below w.heap.size w W) := fun W hW => B1.out.trans (hW.mono (by omega))
  have Z1 := Lib.hid (szKernel_any A1 n1 c1 A2 n2 c2 A3 n3 c3 K.tick K.run 1048576 w1 (by omega) (by omega) b1 b2 b3)
  obtain ⟨y1, y2⟩ := szk_le 1048576 n1 n2 n3 (by omega)
  have Z2 : Hid (0 ≤ szk 1048576 n1 n2 n3 → ∀ W, Below w1.heap.size w1 W → Calls Try.prog 9 #[.agg #[.slice A1' n1' c1', .slice A2' n2' c2', .slice A3' n3' c3', .int .i64 L.tick, .int .i64 L.run], .int .i64 (szk 1048576 n1 n2 n3)] W fun e w' => e = .returned (.int .i64 (szk (szk 1048576 n1 n2 n3) n1' n2' n3')) ∧ Below w1.heap.size w1 w') := fun h0 W hW =>
    (szKernel_any A1' n1' c1' A2' n2' c2' A3' n3' c3' L.tick L.run (szk 1048576 n1 n2 n3) W h0 y1 d1 d2 d3).mono fun e w' hh => ⟨hh.1, hW.trans (hh.2.mono hW.size)⟩
  have Y3 : Hid (0 ≤ szk 1048576 n1 n2 n3 → 0 ≤ szk (szk 1048576 n1 n2 n3) n1' n2' n3' → (n1' : Int) + n2' + n3' ≤ 1048576) := fun h0 h1 => by
    have := (szk_le (szk 1048576 n1 n2 n3) n1' n2' n3' h0).2 h1
    omega
  have Y2 := Lib.hid y2
  clear h h' k1 k2 b1 b2 b3 d1 d2 d3 y1 y2
  obtain ⟨⟨q0, q1, q2, q3, q4⟩, p0, p1, p2, p3, p4⟩ := QS.out w1 R0.out
  go_enter Try.func8, Try.ntmps8
  go_upto_region 1 with (fail)
  rw [← hW1]
  clear hW1 sz
  go_wp2_with fail
  refine Z1.out.mono ?_
  rintro e w2 ⟨rfl, hb⟩
  have R2 := Lib.hid hb
  obtain ⟨⟨q0, q1, q2, q3, q4⟩, p0, p1, p2, p3, p4⟩ := QS.out w2 hb
  clear hb Z1
  by_cases hs : szk 1048576 n1 n2 n3 < 0
  · go_wp2
    go_ret
    exact ⟨rfl, FIN.out _ R2.out⟩
  have hs0 : 0 ≤ szk 1048576 n1 n2 n3 := by omega
  go_wp2_with fail
  refine (Z2.out hs0 _ R2.out).mono ?_
  rintro e w3 ⟨rfl, hb⟩
  have R3 := Lib.hid hb
  obtain ⟨⟨q0, q1, q2, q3, q4⟩, p0, p1, p2, p3, p4⟩ := QS.out w3 hb
  clear hb Z2
  by_cases ht : szk (szk 1048576 n1 n2 n3) n1' n2' n3' < 0
  · go_wp2
    go_ret
    exact ⟨rfl, FIN.out _ R3.out⟩
  have smK : (n1 : Int) + n2 + n3 ≤ 1048576 := Y2.out hs0
  have smL : (n1' : Int) + n2' + n3' ≤ 1048576 := Y3.out hs0 (by omega)
  have SM := Lib.hid (show (n1 + n2 + n3 ≤ 1048576) ∧ (n1' + n2' + n3' ≤ 1048576) from ⟨by omega, by omega⟩)
  clear smK smL hs0 Y2 Y3 R2
  have TK : Hid (∀ W, Below w1.heap.size w1 W → Calls Try.prog 11 #[.agg #[.slice A1 n1 c1, .slice A2 n2 c2, .slice A3 n3 c3, .int .i64 K.tick, .int .i64 K.run]] W fun e w' => ∃ u1 u2 u3, e = .returned (.agg #[.slice (some ⟨u1, 0, none⟩) n1 n1, .slice (some ⟨u2, 0, none⟩) n2 n2, .slice (some ⟨u3, 0, none⟩) n3 n3, .int .i64 K.tick, .int .i64 K.run]) ∧ KRead w' 0 w'.heap.size (some ⟨u1, 0, none⟩) n1 (some ⟨u2, 0, none⟩) n2 (some ⟨u3, 0, none⟩) n3 K ∧ Below w1.heap.size w1 w' ∧ Below W.heap.size W w') := fun W hW =>
    (toKernel_any 0 w1.heap.size A1 n1 c1 A2 n2 c2 A3 n3 c3 K.tick K.run K W (by have := SM.out; omega) (by have := SM.out; omega) (by have := SM.out; omega) (RK.out.below hW (Nat.le_refl _))).mono fun e w' ⟨u1, u2, u3, he, ⟨z1, z2, z3, z4⟩, m1, m2, m3, hb⟩ => ⟨u1, u2, u3, he, kread_rows HLK.out m1 m2 m3 ⟨by omega, by omega⟩ ⟨by omega, by omega⟩ ⟨by omega, by omega⟩, hW.trans (hb.mono hW.size), hb⟩
  have TL : Hid (∀ W, Below w1.heap.size w1 W → Calls Try.prog 11 #[.agg #[.slice A1' n1' c1', .slice A2' n2' c2', .slice A3' n3' c3', .int .i64 L.tick, .int .i64 L.run]] W fun e w' => ∃ v1 v2 v3, e = .returned (.agg #[.slice (some ⟨v1, 0, none⟩) n1' n1', .slice (some ⟨v2, 0, none⟩) n2' n2', .slice (some ⟨v3, 0, none⟩) n3' n3', .int .i64 L.tick, .int .i64 L.run]) ∧ KRead w' 0 w'.heap.size (some ⟨v1, 0, none⟩) n1' (some ⟨v2, 0, none⟩) n2' (some ⟨v3, 0, none⟩) n3' L ∧ Below w1.heap.size w1 w' ∧ Below W.heap.size W w') := fun W hW =>
    (toKernel_any 0 w1.heap.size A1' n1' c1' A2' n2' c2' A3' n3' c3' L.tick L.run L W (by have := SM.out; omega) (by have := SM.out; omega) (by have := SM.out; omega) (RL.out.below hW (Nat.le_refl _))).mono fun e w' ⟨u1, u2, u3, he, ⟨z1, z2, z3, z4⟩, m1, m2, m3, hb⟩ => ⟨u1, u2, u3, he, kread_rows HLL.out m1 m2 m3 ⟨by omega, by omega⟩ ⟨by omega, by omega⟩ ⟨by omega, by omega⟩, hW.trans (hb.mono hW.size), hb⟩
  go_upto_region 8 with (fail)
  have KS : Hid (∀ W, Below w1.heap.size w1 W → (W.cell? ⟨w.heap.size, 0, none⟩ = some (.slice A1 n1 c1) ∧ W.cell? ⟨w.heap.size, 1, none⟩ = some (.slice A2 n2 c2) ∧ W.cell? ⟨w.heap.size, 2, none⟩ = some (.slice A3 n3 c3) ∧ W.cell? ⟨w.heap.size, 3, none⟩ = some (.int .i64 K.tick) ∧ W.cell? ⟨w.heap.size, 4, none⟩ = some (.int .i64 K.run)) ∧ (W.cell? ⟨w.heap.size + 1, 0, none⟩ = some (.slice A1' n1' c1') ∧ W.cell? ⟨w.heap.size + 1, 1, none⟩ = some (.slice A2' n2' c2') ∧ W.cell? ⟨w.heap.size + 1, 2, none⟩ = some (.slice A3' n3' c3') ∧ W.cell? ⟨w.heap.size + 1, 3, none⟩ = some (.int .i64 L.tick) ∧ W.cell? ⟨w.heap.size + 1, 4, none⟩ = some (.int .i64 L.run)) ∧ Below w1.heap.size w1 W) := fun W hW => ⟨(QS.out W hW).1, (QS.out W hW).2, hW⟩
  have PS : Hid (∀ W, ((W.cell? ⟨w.heap.size, 0, none⟩ = some (.slice A1 n1 c1) ∧ W.cell? ⟨w.heap.size, 1, none⟩ = some (.slice A2 n2 c2) ∧ W.cell? ⟨w.heap.size, 2, none⟩ = some (.slice A3 n3 c3) ∧ W.cell? ⟨w.heap.size, 3, none⟩ = some (.int .i64 K.tick) ∧ W.cell? ⟨w.heap.size, 4, none⟩ = some (.int .i64 K.run)) ∧ (W.cell? ⟨w.heap.size + 1, 0, none⟩ = some (.slice A1' n1' c1') ∧ W.cell? ⟨w.heap.size + 1, 1, none⟩ = some (.slice A2' n2' c2') ∧ W.cell? ⟨w.heap.size + 1, 2, none⟩ = some (.slice A3' n3' c3') ∧ W.cell? ⟨w.heap.size + 1, 3, none⟩ = some (.int .i64 L.tick) ∧ W.cell? ⟨w.heap.size + 1, 4, none⟩ = some (.int .i64 L.run)) ∧ Below w1.heap.size w1 W) → Below w1.heap.size w1 W) := fun W hh => hh.2.2
  have SP : Hid (∀ W u1 u2 u3 v1 v2 v3 g g', Below w1.heap.size w1 W → KRead W 0 g (some ⟨u1, 0, none⟩) n1 (some ⟨u2, 0, none⟩) n2 (some ⟨u3, 0, none⟩) n3 K → KRead W 0 g' (some ⟨v1, 0, none⟩) n1' (some ⟨v2, 0, none⟩) n2' (some ⟨v3, 0, none⟩) n3' L → Calls Try.prog 28 #[.agg #[.slice (some ⟨u1, 0, none⟩) n1 n1, .slice (some ⟨u2, 0, none⟩) n2 n2, .slice (some ⟨u3, 0, none⟩) n3 n3, .int .i64 K.tick, .int .i64 K.run], .agg #[.slice (some ⟨v1, 0, none⟩) n1' n1', .slice (some ⟨v2, 0, none⟩) n2' n2', .slice (some ⟨v3, 0, none⟩) n3' n3', .int .i64 L.tick, .int .i64 L.run]] W fun e w' => e = .returned (.bool (decide (K = L))) ∧ Below w1.heap.size w1 w') := fun W u1 u2 u3 v1 v2 v3 g g' hW hk hl =>
    (specSameKernels_any 0 g 0 g' _ n1 n1 _ n2 n2 _ n3 n3 _ n1' n1' _ n2' n2' _ n3' n3' K L W (by have := SM.out; omega) (by have := SM.out; omega) (by have := SM.out; omega) hk hl).mono fun e w' hh => ⟨hh.1, hW.trans (hh.2.mono hW.size)⟩
  have IP : Hid (∀ W u1 u2 u3 v1 v2 v3 g g', Below w1.heap.size w1 W → KRead W 0 g (some ⟨u1, 0, none⟩) n1 (some ⟨u2, 0, none⟩) n2 (some ⟨u3, 0, none⟩) n3 K → KRead W 0 g' (some ⟨v1, 0, none⟩) n1' (some ⟨v2, 0, none⟩) n2' (some ⟨v3, 0, none⟩) n3' L → Calls Try.prog 29 #[.agg #[.slice (some ⟨u1, 0, none⟩) n1 n1, .slice (some ⟨u2, 0, none⟩) n2 n2, .slice (some ⟨u3, 0, none⟩) n3 n3, .int .i64 K.tick, .int .i64 K.run], .agg #[.slice (some ⟨v1, 0, none⟩) n1' n1', .slice (some ⟨v2, 0, none⟩) n2' n2', .slice (some ⟨v3, 0, none⟩) n3' n3', .int .i64 L.tick, .int .i64 L.run]] W fun e w' => e = .returned (.bool (decide (K = L))) ∧ Below w1.heap.size w1 w' ∧ Below W.heap.size W w') := fun W u1 u2 u3 v1 v2 v3 g g' hW hk hl =>
    (implSameKernels_any 0 g 0 g' _ n1 n1 _ n2 n2 _ n3 n3 _ n1' n1' _ n2' n2' _ n3' n3' K L W (by have := SM.out; omega) (by have := SM.out; omega) (by have := SM.out; omega) hk hl).mono fun e w' hh => ⟨hh.1, hW.trans (hh.2.mono hW.size), hh.2⟩
  generalize decide (K = L) = eq at *
  go_cut [6] from 10 (fun x wx => x = .bool eq ∧ Below w1.heap.size w1 wx)
  case first => as_aux_lemma =>
    go_region_held3 (fun W => (W.cell? ⟨w.heap.size, 0, none⟩ = some (.slice A1 n1 c1) ∧ W.cell? ⟨w.heap.size, 1, none⟩ = some (.slice A2 n2 c2) ∧ W.cell? ⟨w.heap.size, 2, none⟩ = some (.slice A3 n3 c3) ∧ W.cell? ⟨w.heap.size, 3, none⟩ = some (.int .i64 K.tick) ∧ W.cell? ⟨w.heap.size, 4, none⟩ = some (.int .i64 K.run)) ∧ (W.cell? ⟨w.heap.size + 1, 0, none⟩ = some (.slice A1' n1' c1') ∧ W.cell? ⟨w.heap.size + 1, 1, none⟩ = some (.slice A2' n2' c2') ∧ W.cell? ⟨w.heap.size + 1, 2, none⟩ = some (.slice A3' n3' c3') ∧ W.cell? ⟨w.heap.size + 1, 3, none⟩ = some (.int .i64 L.tick) ∧ W.cell? ⟨w.heap.size + 1, 4, none⟩ = some (.int .i64 L.run)) ∧ Below w1.heap.size w1 W) (first | with_reducible exact KS.out _ (by assumption) | exact KS.out _ (Below.drew R3.out)) (first | (go_at_call 11; with_reducible refine (TK.out _ (PS.out _ (by assumption))).mono ?_; rintro e9 wu ⟨u1, u2, u3, rfl, hku, hbu, hbu2⟩) | (go_at_call 11; with_reducible refine (TL.out _ (PS.out _ (by assumption))).mono ?_; rintro e9 wv ⟨v1, v2, v3, rfl, hkv, hbv, hbv2⟩) | (go_at_call 28; with_reducible refine (SP.out _ _ _ _ _ _ _ _ _ (PS.out _ (by assumption)) (by first | exact hku | exact hku.below hbv2 (Nat.le_refl _)) (by first | exact hkv | exact hkv.below hbu2 (Nat.le_refl _))).mono ?_; rintro e9 ws ⟨rfl, hbs⟩))
    all_goals (go_wp2_with fail; go_meet; exact ⟨rfl, by assumption⟩)
  case rest =>
    obtain ⟨rfl, hb⟩ := hcut
    have R4 := Lib.hid hb
    obtain ⟨⟨q0, q1, q2, q3, q4⟩, p0, p1, p2, p3, p4⟩ := QS.out wc hb
    clear hb R3 SP
    go_wp2_with fail
    refine (TK.out _ R4.out).mono ?_
    rintro e w5 ⟨u1, u2, u3, rfl, hku, hb, _⟩
    have s5 := hb.size
    obtain ⟨w6, hw6⟩ : ∃ w6, w6 = w5.alloc (.cells #[.slice (some ⟨u1, 0, none⟩) n1 n1, .slice (some ⟨u2, 0, none⟩) n2 n2, .slice (some ⟨u3, 0, none⟩) n3 n3, .int .i64 K.tick, .int .i64 K.run] 31) := ⟨_, rfl⟩
    have X6 := Lib.hid (show w6.heap[w5.heap.size]? = some (.cells #[.slice (some ⟨u1, 0, none⟩) n1 n1, .slice (some ⟨u2, 0, none⟩) n2 n2, .slice (some ⟨u3, 0, none⟩) n3 n3, .int .i64 K.tick, .int .i64 K.run] 31 (0, 0)) by rw [hw6]; exact heap_alloc_new w5 _)
    have R6 : Hid (Below w1.heap.size w1 w6) := by rw [hw6]; exact hb.alloc hb.size _
    have KU := Lib.hid (show KRead w6 0 w5.heap.size (some ⟨u1, 0, none⟩) n1 (some ⟨u2, 0, none⟩) n2 (some ⟨u3, 0, none⟩) n3 K by rw [hw6]; exact hku.below (below_new w5 _) (Nat.le_refl _))
    have s6 : w6.heap.size = w5.heap.size + 1 := by rw [hw6]; simp
    have HW6 := Lib.hid hw6
    have S6 := Lib.hid (show w1.heap.size ≤ w5.heap.size ∧ w6.heap.size = w5.heap.size + 1 from ⟨s5, s6⟩)
    obtain ⟨⟨q0, q1, q2, q3, q4⟩, p0, p1, p2, p3, p4⟩ := QS.out w6 R6.out
    clear hku hb hw6 s5 s6
    go_upto_region 10 with (fail)
    rw [← HW6.out]
    clear HW6
    go_wp2_with fail
    refine (TL.out _ R6.out).mono ?_
    rintro e w7 ⟨v1, v2, v3, rfl, hkv, hb, hb2⟩
    have s7 := hb2.size
    obtain ⟨w8, hw8⟩ : ∃ w8, w8 = w7.alloc (.cells #[.slice (some ⟨v1, 0, none⟩) n1' n1', .slice (some ⟨v2, 0, none⟩) n2' n2', .slice (some ⟨v3, 0, none⟩) n3' n3', .int .i64 L.tick, .int .i64 L.run] 31) := ⟨_, rfl⟩
    have b8 : Below w6.heap.size w6 w8 := by rw [hw8]; exact hb2.alloc hb2.size _
    have X8 := Lib.hid ((b8.block w5.heap.size (by have := S6.out; omega)).trans X6.out)
    have Y8 := Lib.hid (show w8.heap[w7.heap.size]? = some (.cells #[.slice (some ⟨v1, 0, none⟩) n1' n1', .slice (some ⟨v2, 0, none⟩) n2' n2', .slice (some ⟨v3, 0, none⟩) n3' n3', .int .i64 L.tick, .int .i64 L.run] 31 (0, 0)) by rw [hw8]; exact heap_alloc_new w7 _)
    have R8 : Hid (Below w1.heap.size w1 w8) := by rw [hw8]; exact hb.alloc hb.size _
    have KU8 := Lib.hid (KU.out.below b8 (by have := S6.out; omega))
    have KV8 := Lib.hid (show KRead w8 0 w7.heap.size (some ⟨v1, 0, none⟩) n1' (some ⟨v2, 0, none⟩) n2' (some ⟨v3, 0, none⟩) n3' L by rw [hw8]; exact hkv.below (below_new w7 _) (Nat.le_refl _))
    have s8 : w8.heap.size = w7.heap.size + 1 := by rw [hw8]; simp
    have HW8 := Lib.hid hw8
    have S8 := Lib.hid (show w5.heap.size < w8.heap.size ∧ w7.heap.size < w8.heap.size by have := S6.out; omega)
    have e0 := cell_of_row w8 _ 0 _ _ _ X8.out; have e1 := cell_of_row w8 _ 1 _ _ _ X8.out; have e2 := cell_of_row w8 _ 2 _ _ _ X8.out; have e3 := cell_of_row w8 _ 3 _ _ _ X8.out; have e4 := cell_of_row w8 _ 4 _ _ _ X8.out
    have f0 := cell_of_row w8 _ 0 _ _ _ Y8.out; have f1 := cell_of_row w8 _ 1 _ _ _ Y8.out; have f2 := cell_of_row w8 _ 2 _ _ _ Y8.out; have f3 := cell_of_row w8 _ 3 _ _ _ Y8.out; have f4 := cell_of_row w8 _ 4 _ _ _ Y8.out
    simp at e0 e1 e2 e3 e4 f0 f1 f2 f3 f4
    clear hkv hb hb2 hw8 b8 s7 s8 X6 KU R6
    clear q0 q1 q2 q3 q4 p0 p1 p2 p3 p4
    go_upto_region 11 with (fail)
    rw [← HW8.out]
    clear HW8
    go_wp2_with fail
    refine (IP.out _ _ _ _ _ _ _ _ _ R8.out KU8.out KV8.out).mono ?_
    rintro e w9 ⟨rfl, hb, hb2⟩
    have R9 := Lib.hid hb
    have X9 := Lib.hid ((hb2.block w5.heap.size S8.out.1).trans X8.out)
    have Y9 := Lib.hid ((hb2.block w7.heap.size S8.out.2).trans Y8.out)
    have KU9 := Lib.hid (KU8.out.below hb2 (by have := S8.out; omega))
    have KV9 := Lib.hid (KV8.out.below hb2 (by have := S8.out; omega))
    have S9 := Lib.hid (show w5.heap.size < w9.heap.size ∧ w7.heap.size < w9.heap.size ∧ w1.heap.size ≤ w9.heap.size by have := S8.out; have := hb2.size; have := hb.size; omega)
    clear hb hb2 e0 e1 e2 e3 e4 f0 f1 f2 f3 f4 X8 Y8 KU8 KV8 IP R8 R4
    have UP : Hid (∀ W, Below w9.heap.size w9 W → Below w1.heap.size w1 W) := fun W hW => R9.out.trans (hW.mono S9.out.2.2)
    have neq : ∀ W, (binOp .neq 4 (.bool eq) (.bool eq)).run Try.prog W = .ok (.bool false) W := fun W => by cases eq <;> rfl
    have AK : Hid (∀ W, Below w9.heap.size w9 W → Calls Try.prog 11 #[.agg #[.slice A1 n1 c1, .slice A2 n2 c2, .slice A3 n3 c3, .int .i64 K.tick, .int .i64 K.run]] W fun e w' => ∃ y1 y2 y3, e = .returned (.agg #[.slice (some ⟨y1, 0, none⟩) n1 n1, .slice (some ⟨y2, 0, none⟩) n2 n2, .slice (some ⟨y3, 0, none⟩) n3 n3, .int .i64 K.tick, .int .i64 K.run]) ∧ KRead w' 0 w'.heap.size (some ⟨y1, 0, none⟩) n1 (some ⟨y2, 0, none⟩) n2 (some ⟨y3, 0, none⟩) n3 K ∧ Below w9.heap.size w9 w') := fun W hB =>
      (TK.out W (UP.out W hB)).mono fun e w' ⟨y1, y2, y3, he, hk, hb, hb2⟩ => ⟨y1, y2, y3, he, hk, hB.trans (hb2.mono hB.size)⟩
    have AL : Hid (∀ W, Below w9.heap.size w9 W → Calls Try.prog 11 #[.agg #[.slice A1' n1' c1', .slice A2' n2' c2', .slice A3' n3' c3', .int .i64 L.tick, .int .i64 L.run]] W fun e w' => ∃ y1 y2 y3, e = .returned (.agg #[.slice (some ⟨y1, 0, none⟩) n1' n1', .slice (some ⟨y2, 0, none⟩) n2' n2', .slice (some ⟨y3, 0, none⟩) n3' n3', .int .i64 L.tick, .int .i64 L.run]) ∧ KRead w' 0 w'.heap.size (some ⟨y1, 0, none⟩) n1' (some ⟨y2, 0, none⟩) n2' (some ⟨y3, 0, none⟩) n3' L ∧ Below w9.heap.size w9 w') := fun W hB =>
      (TL.out W (UP.out W hB)).mono fun e w' ⟨y1, y2, y3, he, hk, hb, hb2⟩ => ⟨y1, y2, y3, he, hk, hB.trans (hb2.mono hB.size)⟩
    have EK : Hid (∀ W y1 y2 y3, Below w9.heap.size w9 W → KRead W 0 W.heap.size (some ⟨y1, 0, none⟩) n1 (some ⟨y2, 0, none⟩) n2 (some ⟨y3, 0, none⟩) n3 K → Calls Try.prog 13 #[.agg #[.slice (some ⟨u1, 0, none⟩) n1 n1, .slice (some ⟨u2, 0, none⟩) n2 n2, .slice (some ⟨u3, 0, none⟩) n3 n3, .int .i64 K.tick, .int .i64 K.run], .agg #[.slice (some ⟨y1, 0, none⟩) n1 n1, .slice (some ⟨y2, 0, none⟩) n2 n2, .slice (some ⟨y3, 0, none⟩) n3 n3, .int .i64 K.tick, .int .i64 K.run]] W fun e w' => e = .returned (.bool true) ∧ Below w9.heap.size w9 w') := fun W y1 y2 y3 hB hk =>
      (eqKernel_same 0 w5.heap.size 0 W.heap.size _ n1 n1 _ n2 n2 _ n3 n3 _ n1 _ n2 _ n3 K.tick K.run K W (by have := SM.out; omega) (by have := SM.out; omega) (by have := SM.out; omega) (KU9.out.below hB (by have := S9.out; omega)) hk).mono fun e w' ⟨h1, h2⟩ => ⟨h1, hB.trans (h2.mono hB.size)⟩
    have EL : Hid (∀ W y1 y2 y3, Below w9.heap.size w9 W → KRead W 0 W.heap.size (some ⟨y1, 0, none⟩) n1' (some ⟨y2, 0, none⟩) n2' (some ⟨y3, 0, none⟩) n3' L → Calls Try.prog 13 #[.agg #[.slice (some ⟨v1, 0, none⟩) n1' n1', .slice (some ⟨v2, 0, none⟩) n2' n2', .slice (some ⟨v3, 0, none⟩) n3' n3', .int .i64 L.tick, .int .i64 L.run], .agg #[.slice (some ⟨y1, 0, none⟩) n1' n1', .slice (some ⟨y2, 0, none⟩) n2' n2', .slice (some ⟨y3, 0, none⟩) n3' n3', .int .i64 L.tick, .int .i64 L.run]] W fun e w' => e = .returned (.bool true) ∧ Below w9.heap.size w9 w') := fun W y1 y2 y3 hB hk =>
      (eqKernel_same 0 w7.heap.size 0 W.heap.size _ n1' n1' _ n2' n2' _ n3' n3' _ n1' _ n2' _ n3' L.tick L.run L W (by have := SM.out; omega) (by have := SM.out; omega) (by have := SM.out; omega) (KV9.out.below hB (by have := S9.out; omega)) hk).mono fun e w' ⟨h1, h2⟩ => ⟨h1, hB.trans (h2.mono hB.size)⟩
    have KT : Hid (∀ W, Below w9.heap.size w9 W → (W.cell? ⟨w.heap.size, 0, none⟩ = some (.slice A1 n1 c1) ∧ W.cell? ⟨w.heap.size, 1, none⟩ = some (.slice A2 n2 c2) ∧ W.cell? ⟨w.heap.size, 2, none⟩ = some (.slice A3 n3 c3) ∧ W.cell? ⟨w.heap.size, 3, none⟩ = some (.int .i64 K.tick) ∧ W.cell? ⟨w.heap.size, 4, none⟩ = some (.int .i64 K.run)) ∧ (W.cell? ⟨w.heap.size + 1, 0, none⟩ = some (.slice A1' n1' c1') ∧ W.cell? ⟨w.heap.size + 1, 1, none⟩ = some (.slice A2' n2' c2') ∧ W.cell? ⟨w.heap.size + 1, 2, none⟩ = some (.slice A3' n3' c3') ∧ W.cell? ⟨w.heap.size + 1, 3, none⟩ = some (.int .i64 L.tick) ∧ W.cell? ⟨w.heap.size + 1, 4, none⟩ = some (.int .i64 L.run)) ∧ (W.cell? ⟨w5.heap.size, 0, none⟩ = some (.slice (some ⟨u1, 0, none⟩) n1 n1) ∧ W.cell? ⟨w5.heap.size, 1, none⟩ = some (.slice (some ⟨u2, 0, none⟩) n2 n2) ∧ W.cell? ⟨w5.heap.size, 2, none⟩ = some (.slice (some ⟨u3, 0, none⟩) n3 n3) ∧ W.cell? ⟨w5.heap.size, 3, none⟩ = some (.int .i64 K.tick) ∧ W.cell? ⟨w5.heap.size, 4, none⟩ = some (.int .i64 K.run)) ∧ (W.cell? ⟨w7.heap.size, 0, none⟩ = some (.slice (some ⟨v1, 0, none⟩) n1' n1') ∧ W.cell? ⟨w7.heap.size, 1, none⟩ = some (.slice (some ⟨v2, 0, none⟩) n2' n2') ∧ W.cell? ⟨w7.heap.size, 2, none⟩ = some (.slice (some ⟨v3, 0, none⟩) n3' n3') ∧ W.cell? ⟨w7.heap.size, 3, none⟩ = some (.int .i64 L.tick) ∧ W.cell? ⟨w7.heap.size, 4, none⟩ = some (.int .i64 L.run)) ∧ Below w9.heap.size w9 W) := fun W hB => by
      have j1 := (hB.block w5.heap.size S9.out.1).trans X9.out
      have j2 := (hB.block w7.heap.size S9.out.2.1).trans Y9.out
      exact ⟨(QS.out W (UP.out W hB)).1, (QS.out W (UP.out W hB)).2, ⟨cell_of_row W _ 0 _ _ _ j1, cell_of_row W _ 1 _ _ _ j1, cell_of_row W _ 2 _ _ _ j1, cell_of_row W _ 3 _ _ _ j1, cell_of_row W _ 4 _ _ _ j1⟩, ⟨cell_of_row W _ 0 _ _ _ j2, cell_of_row W _ 1 _ _ _ j2, cell_of_row W _ 2 _ _ _ j2, cell_of_row W _ 3 _ _ _ j2, cell_of_row W _ 4 _ _ _ j2⟩, hB⟩
    have PT : Hid (∀ W, ((W.cell? ⟨w.heap.size, 0, none⟩ = some (.slice A1 n1 c1) ∧ W.cell? ⟨w.heap.size, 1, none⟩ = some (.slice A2 n2 c2) ∧ W.cell? ⟨w.heap.size, 2, none⟩ = some (.slice A3 n3 c3) ∧ W.cell? ⟨w.heap.size, 3, none⟩ = some (.int .i64 K.tick) ∧ W.cell? ⟨w.heap.size, 4, none⟩ = some (.int .i64 K.run)) ∧ (W.cell? ⟨w.heap.size + 1, 0, none⟩ = some (.slice A1' n1' c1') ∧ W.cell? ⟨w.heap.size + 1, 1, none⟩ = some (.slice A2' n2' c2') ∧ W.cell? ⟨w.heap.size + 1, 2, none⟩ = some (.slice A3' n3' c3') ∧ W.cell? ⟨w.heap.size + 1, 3, none⟩ = some (.int .i64 L.tick) ∧ W.cell? ⟨w.heap.size + 1, 4, none⟩ = some (.int .i64 L.run)) ∧ (W.cell? ⟨w5.heap.size, 0, none⟩ = some (.slice (some ⟨u1, 0, none⟩) n1 n1) ∧ W.cell? ⟨w5.heap.size, 1, none⟩ = some (.slice (some ⟨u2, 0, none⟩) n2 n2) ∧ W.cell? ⟨w5.heap.size, 2, none⟩ = some (.slice (some ⟨u3, 0, none⟩) n3 n3) ∧ W.cell? ⟨w5.heap.size, 3, none⟩ = some (.int .i64 K.tick) ∧ W.cell? ⟨w5.heap.size, 4, none⟩ = some (.int .i64 K.run)) ∧ (W.cell? ⟨w7.heap.size, 0, none⟩ = some (.slice (some ⟨v1, 0, none⟩) n1' n1') ∧ W.cell? ⟨w7.heap.size, 1, none⟩ = some (.slice (some ⟨v2, 0, none⟩) n2' n2') ∧ W.cell? ⟨w7.heap.size, 2, none⟩ = some (.slice (some ⟨v3, 0, none⟩) n3' n3') ∧ W.cell? ⟨w7.heap.size, 3, none⟩ = some (.int .i64 L.tick) ∧ W.cell? ⟨w7.heap.size, 4, none⟩ = some (.int .i64 L.run)) ∧ Below w9.heap.size w9 W) → Below w9.heap.size w9 W) := fun W hh => hh.2.2.2.2
    clear TK TL KS PS
    go_upto_region 14 with (fail)
    go_region_held3 (fun W => (W.cell? ⟨w.heap.size, 0, none⟩ = some (.slice A1 n1 c1) ∧ W.cell? ⟨w.heap.size, 1, none⟩ = some (.slice A2 n2 c2) ∧ W.cell? ⟨w.heap.size, 2, none⟩ = some (.slice A3 n3 c3) ∧ W.cell? ⟨w.heap.size, 3, none⟩ = some (.int .i64 K.tick) ∧ W.cell? ⟨w.heap.size, 4, none⟩ = some (.int .i64 K.run)) ∧ (W.cell? ⟨w.heap.size + 1, 0, none⟩ = some (.slice A1' n1' c1') ∧ W.cell? ⟨w.heap.size + 1, 1, none⟩ = some (.slice A2' n2' c2') ∧ W.cell? ⟨w.heap.size + 1, 2, none⟩ = some (.slice A3' n3' c3') ∧ W.cell? ⟨w.heap.size + 1, 3, none⟩ = some (.int .i64 L.tick) ∧ W.cell? ⟨w.heap.size + 1, 4, none⟩ = some (.int .i64 L.run)) ∧ (W.cell? ⟨w5.heap.size, 0, none⟩ = some (.slice (some ⟨u1, 0, none⟩) n1 n1) ∧ W.cell? ⟨w5.heap.size, 1, none⟩ = some (.slice (some ⟨u2, 0, none⟩) n2 n2) ∧ W.cell? ⟨w5.heap.size, 2, none⟩ = some (.slice (some ⟨u3, 0, none⟩) n3 n3) ∧ W.cell? ⟨w5.heap.size, 3, none⟩ = some (.int .i64 K.tick) ∧ W.cell? ⟨w5.heap.size, 4, none⟩ = some (.int .i64 K.run)) ∧ (W.cell? ⟨w7.heap.size, 0, none⟩ = some (.slice (some ⟨v1, 0, none⟩) n1' n1') ∧ W.cell? ⟨w7.heap.size, 1, none⟩ = some (.slice (some ⟨v2, 0, none⟩) n2' n2') ∧ W.cell? ⟨w7.heap.size, 2, none⟩ = some (.slice (some ⟨v3, 0, none⟩) n3' n3') ∧ W.cell? ⟨w7.heap.size, 3, none⟩ = some (.int .i64 L.tick) ∧ W.cell? ⟨w7.heap.size, 4, none⟩ = some (.int .i64 L.run)) ∧ Below w9.heap.size w9 W) (first | with_reducible exact KT.out _ (by assumption) | exact KT.out _ (Below.drew (Below.refl _ _))) (first | (go_at_call 11; with_reducible refine (AK.out _ (PT.out _ (by assumption))).mono ?_; rintro e9 wa ⟨y1, y2, y3, rfl, hkr, hba⟩) | (go_at_call 13; with_reducible refine (EK.out _ _ _ _ (PT.out _ (by assumption)) (by assumption)).mono ?_; rintro e9 wb ⟨rfl, hbb⟩))
    go_upto_region 16 with (fail)
    go_region_held3 (fun W => (W.cell? ⟨w.heap.size, 0, none⟩ = some (.slice A1 n1 c1) ∧ W.cell? ⟨w.heap.size, 1, none⟩ = some (.slice A2 n2 c2) ∧ W.cell? ⟨w.heap.size, 2, none⟩ = some (.slice A3 n3 c3) ∧ W.cell? ⟨w.heap.size, 3, none⟩ = some (.int .i64 K.tick) ∧ W.cell? ⟨w.heap.size, 4, none⟩ = some (.int .i64 K.run)) ∧ (W.cell? ⟨w.heap.size + 1, 0, none⟩ = some (.slice A1' n1' c1') ∧ W.cell? ⟨w.heap.size + 1, 1, none⟩ = some (.slice A2' n2' c2') ∧ W.cell? ⟨w.heap.size + 1, 2, none⟩ = some (.slice A3' n3' c3') ∧ W.cell? ⟨w.heap.size + 1, 3, none⟩ = some (.int .i64 L.tick) ∧ W.cell? ⟨w.heap.size + 1, 4, none⟩ = some (.int .i64 L.run)) ∧ (W.cell? ⟨w5.heap.size, 0, none⟩ = some (.slice (some ⟨u1, 0, none⟩) n1 n1) ∧ W.cell? ⟨w5.heap.size, 1, none⟩ = some (.slice (some ⟨u2, 0, none⟩) n2 n2) ∧ W.cell? ⟨w5.heap.size, 2, none⟩ = some (.slice (some ⟨u3, 0, none⟩) n3 n3) ∧ W.cell? ⟨w5.heap.size, 3, none⟩ = some (.int .i64 K.tick) ∧ W.cell? ⟨w5.heap.size, 4, none⟩ = some (.int .i64 K.run)) ∧ (W.cell? ⟨w7.heap.size, 0, none⟩ = some (.slice (some ⟨v1, 0, none⟩) n1' n1') ∧ W.cell? ⟨w7.heap.size, 1, none⟩ = some (.slice (some ⟨v2, 0, none⟩) n2' n2') ∧ W.cell? ⟨w7.heap.size, 2, none⟩ = some (.slice (some ⟨v3, 0, none⟩) n3' n3') ∧ W.cell? ⟨w7.heap.size, 3, none⟩ = some (.int .i64 L.tick) ∧ W.cell? ⟨w7.heap.size, 4, none⟩ = some (.int .i64 L.run)) ∧ Below w9.heap.size w9 W) (first | with_reducible exact KT.out _ (by assumption) | exact KT.out _ (Below.drew hbb)) (first | (go_at_call 11; with_reducible refine (AL.out _ (PT.out _ (by assumption))).mono ?_; rintro e9 wc ⟨y1, y2, y3, rfl, hkr, hbc⟩) | (go_at_call 13; with_reducible refine (EL.out _ _ _ _ (PT.out _ (by assumption)) (by assumption)).mono ?_; rintro e9 wd ⟨rfl, hbd⟩))
    have HF := Lib.hid (FIN.out _ (UP.out _ hbd))
    clear hba hbb hbc hbd
    go_wp2
    go_ret
    exact ⟨rfl, HF.out⟩

end Go.Proofs.Yteigjjgekkcfkaa
