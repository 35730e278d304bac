/-
  The program's functions of chapter 4 on entries: what is less, what is right. No conditions.
-/
import Derived.BigRegion
import Derived.BigQuiet
import Derived.StillTailTactics
import Derived.Deep.RegionHeld3
import Derived.Laws.Tables
import Derived.Laws.CopyOwn
import Derived.Test.YtckapndpefkcgaaTk
import Derived.Test.YtckapndpefkcgaaOwn4
import Derived.Test.YtckapndpefkcgaaMath4
import Derived.Test.YtckapndpefkcgaaKit4
set_option maxHeartbeats 1000000
namespace Go.Proofs.Ytckapndpefkcgaa
open List renaming getElem_toArray → zz1, getElem_cons_succ → zz2, getElem_cons_zero → zz3, setIfInBounds_toArray → zz4, set_cons_zero → zz5, set_cons_succ → zz6
open Go.RowKit
set_option maxRecDepth 100000

theorem passOf_any (p d : Int) (w : World) : Calls Try.prog 69 #[.agg #[.int .i64 p, .int .i64 d]] w fun e w' => e = .returned (.int .i64 p) ∧ Below w.heap.size w w' := by
  have B1 : Hid (∀ o, Below w.heap.size w (w.alloc o)) := fun o => below_new w o
  go_enter Try.func69, Try.ntmps69
  go_wp2
  go_ret
  exact ⟨rfl, B1.out _⟩
theorem idOf_any (p d : Int) (w : World) : Calls Try.prog 70 #[.agg #[.int .i64 p, .int .i64 d]] w fun e w' => e = .returned (.int .i64 d) ∧ Below w.heap.size w w' := by
  have B1 : Hid (∀ o, Below w.heap.size w (w.alloc o)) := fun o => below_new w o
  go_enter Try.func70, Try.ntmps70
  go_wp2
  go_ret
  exact ⟨rfl, B1.out _⟩
theorem isEntry_any (p d : Int) (w : World) : Calls Try.prog 57 #[.agg #[.int .i64 p, .int .i64 d]] w fun e w' => e = .returned (.bool (okE p d)) ∧ Below w.heap.size w w' := by
  have B1 : Hid (∀ o, Below w.heap.size w (w.alloc o)) := fun o => below_new w o
  by_cases h1 : 0 ≤ p
  · by_cases h2 : p ≤ 100000000
    · by_cases h3 : 0 ≤ d
      · by_cases h4 : d ≤ 99
        · go_enter Try.func57, Try.ntmps57
          go_wp2
          go_ret
          exact ⟨ret_bool (by simp [okE, h1, h2, h3, h4]), B1.out _⟩
        · go_enter Try.func57, Try.ntmps57
          go_wp2
          go_ret
          exact ⟨ret_bool (by simp [okE, h4]), B1.out _⟩
      · go_enter Try.func57, Try.ntmps57
        go_wp2
        go_ret
        exact ⟨ret_bool (by simp [okE]; omega), B1.out _⟩
    · go_enter Try.func57, Try.ntmps57
      go_wp2
      go_ret
      exact ⟨ret_bool (by simp [okE]; omega), B1.out _⟩
  · go_enter Try.func57, Try.ntmps57
    go_wp2
    go_ret
    exact ⟨ret_bool (by simp [okE]; omega), B1.out _⟩
theorem parentOf_any (k u : Nat) (hu : (k - 1) / 2 = u) (hk : 1 ≤ k ∧ k ≤ 1000) (w : World) : Calls Try.prog 104 #[.int .i64 (k : Int)] w fun e w' => e = .returned (.int .i64 (u : Int)) ∧ w = w' := by
  have t1 : IntKind.i64.wrap ((k : Int) - 1) = (k : Int) - 1 := IntWalk.i64_in _ (by omega)
  have t2 : ((k : Int) - 1).tdiv 2 = (u : Int) := by
    rw [Int.tdiv_eq_ediv_of_nonneg (by omega)]; omega
  have t3 : IntKind.i64.wrap (u : Int) = (u : Int) := IntWalk.i64_in _ (by omega)
  go_enter Try.func104, Try.ntmps104
  go_wp2
  go_ret
  exact ⟨rfl, rfl⟩

set_option maxHeartbeats 1000000 in
theorem lessBy_any (p d p' d' : Int) (kb : Nat) (w : World) (k0 : w.cell? ⟨kb, 0, none⟩ = some (.func (.func 69) #[] #[])) (k1 : w.cell? ⟨kb, 1, none⟩ = some (.func (.func 70) #[] #[])) :
    Calls Try.prog 68 #[.agg #[.int .i64 p, .int .i64 d], .agg #[.int .i64 p', .int .i64 d'], .slice (some ⟨kb, 0, none⟩) 2 2] w fun e w' => e = .returned (.bool (lt4 p d p' d')) ∧ Below w.heap.size w w' := by
  obtain ⟨w2, hw2⟩ : ∃ w2, w2 = (w.alloc (.cells #[.int .i64 p, .int .i64 d] 26)).alloc (.cells #[.int .i64 p', .int .i64 d'] 26) := ⟨_, rfl⟩
  have j1 : w2.heap[w.heap.size]? = some (.cells #[.int .i64 p, .int .i64 d] 26 (0, 0)) := by rw [hw2]; exact heap_alloc2_old w _ _
  have j2 : w2.heap[w.heap.size + 1]? = some (.cells #[.int .i64 p', .int .i64 d'] 26 (0, 0)) := by rw [hw2]; exact heap_alloc2_new w _ _
  have B2 : Hid (Below w.heap.size w w2) := by rw [hw2]; exact (below_new w _).alloc (by simp) _
  have Z2 : Hid (w2.heap.size = w.heap.size + 2) := by show _ = _; rw [hw2]; simp
  have KB := Lib.hid (World.block_lt_of_cell? _ _ k0)
  have QS : Hid (∀ W, Below w2.heap.size w2 W → (W.cell? ⟨w.heap.size, 0, none⟩ = some (.int .i64 p) ∧ W.cell? ⟨w.heap.size, 1, none⟩ = some (.int .i64 d) ∧ W.cell? ⟨w.heap.size + 1, 0, none⟩ = some (.int .i64 p') ∧ W.cell? ⟨w.heap.size + 1, 1, none⟩ = some (.int .i64 d')) ∧ W.cell? ⟨kb, 0, none⟩ = some (.func (.func 69) #[] #[]) ∧ W.cell? ⟨kb, 1, none⟩ = some (.func (.func 70) #[] #[])) := fun W hW => by
    have kb1 : kb < w.heap.size := KB.out
    have z := Z2.out
    have i1 := (hW.block w.heap.size (by omega)).trans j1
    have i2 := (hW.block (w.heap.size + 1) (by omega)).trans j2
    exact ⟨⟨cell_of_row W _ 0 _ _ _ i1, cell_of_row W _ 1 _ _ _ i1, cell_of_row W _ 0 _ _ _ i2, cell_of_row W _ 1 _ _ _ i2⟩, (hW.cell (p := ⟨kb, 0, none⟩) (by show kb < _; omega)).trans ((B2.out.cell (p := ⟨kb, 0, none⟩) kb1).trans k0), (hW.cell (p := ⟨kb, 1, none⟩) (by show kb < _; omega)).trans ((B2.out.cell (p := ⟨kb, 1, none⟩) kb1).trans k1)⟩
  have BB : Hid (∀ W, Below w2.heap.size w2 W → Below w.heap.size w W) := fun W hW => B2.out.trans (hW.mono (by have := Z2.out; omega))
  have HW2 := Lib.hid hw2
  clear j1 j2 hw2 k0 k1
  go_enter Try.func68, Try.ntmps68
  go_upto_region 1 with (fail)
  rw [← HW2.out]
  clear HW2
  go_wp2_with fail
  go_loopw [11] (fun i wr => ∃ k : Nat, i = .int .i64 k ∧ (k = 0 ∨ (k = 1 ∧ p = p') ∨ (k = 2 ∧ p = p' ∧ d = d')) ∧ Below w2.heap.size w2 wr) (fun i _ => 3 - (intOf i).toNat)
  case atStart => exact ⟨0, rfl, .inl rfl, Below.refl _ _⟩
  case round =>
    obtain ⟨k, rfl, hk, hb⟩ := hrel
    have RX := Lib.hid hb
    clear hb
    obtain ⟨⟨a0, a1, b0, b1⟩, k0, k1⟩ := QS.out wr RX.out
    rcases hk with rfl | ⟨rfl, hpp⟩ | ⟨rfl, hpp, hdd⟩
    · by_cases hp : p = p'
      · have hne : (p != p') = false := by simp [hp]
        have HP := Lib.hid hp
        clear hp
        go_upto_region 4 with (fail)
        refine wp_region_held_drew (S := fun W => (W.cell? ⟨w.heap.size, 0, none⟩ = some (.int .i64 p) ∧ W.cell? ⟨w.heap.size, 1, none⟩ = some (.int .i64 d) ∧ W.cell? ⟨w.heap.size + 1, 0, none⟩ = some (.int .i64 p') ∧ W.cell? ⟨w.heap.size + 1, 1, none⟩ = some (.int .i64 d'))) (by kernel_rfl) (⟨a0, a1, b0, b1⟩) (fun hHeld => ?_)
        obtain ⟨v0, hv0⟩ : ∃ v0, v0 = wr.drew := ⟨_, rfl⟩
        have BL0 : Hid (Below wr.heap.size wr v0) := by rw [hv0]; exact Below.drew (Below.refl _ _)
        rw [← hv0] at hHeld ⊢
        clear hv0
        refine tkH 0 ?_ rfl ?_ hHeld ?_; rotate_left; (intro w hSw; (try dsimp only at hSw); go_simp; try with_reducible rfl); try simp only [Act.put, zz1, zz2, zz3, zz4, zz5, zz6]
        refine tkH 1 ?_ rfl ?_ hHeld ?_; rotate_left; (intro w hSw; (try dsimp only at hSw); go_simp; try with_reducible rfl); try simp only [Act.put, zz1, zz2, zz3, zz4, zz5, zz6]
        refine tkH 3 ?_ rfl ?_ hHeld ?_; rotate_left; (intro w hSw; (try dsimp only at hSw); go_simp; try with_reducible rfl); try simp only [Act.put, zz1, zz2, zz3, zz4, zz5, zz6]
        refine tkH 4 ?_ rfl ?_ hHeld ?_; rotate_left; (intro w hSw; (try dsimp only at hSw); go_simp; try with_reducible rfl); try simp only [Act.put, zz1, zz2, zz3, zz4, zz5, zz6]
        refine wpAnyH_ready (rs := [2]) (by kernel_rfl) (by simp) ?_
        refine AllReadyH.cons (o := _) rfl (fun K0 hK0 => ?_) AllReadyH.nil
        go_simp
        refine (passOf_any _ _ _).mono ?_
        rintro e9 v1 ⟨rfl, hb⟩
        have B1' := Lib.hid (BL0.out.trans (hb.mono BL0.out.size))
        clear hb
        go_wp2_with fail
        refine hK0.out _ _ ((QS.out _ (RX.out.trans (B1'.out.mono RX.out.size))).1) (fun hHeld => ?_)
        clear hK0 K0
        try simp only [Act.put, zz1, zz2, zz3, zz4, zz5, zz6]
        refine wpAnyH_ready (rs := [5]) (by kernel_rfl) (by simp) ?_
        refine AllReadyH.cons (o := _) rfl (fun K0 hK0 => ?_) AllReadyH.nil
        go_simp
        refine (passOf_any _ _ _).mono ?_
        rintro e9 v2 ⟨rfl, hb⟩
        have B2' := Lib.hid (B1'.out.trans (hb.mono B1'.out.size))
        clear hb
        go_wp2_with fail
        refine hK0.out _ _ ((QS.out _ (RX.out.trans (B2'.out.mono RX.out.size))).1) (fun hHeld => ?_)
        clear hK0 K0
        try simp only [Act.put, zz1, zz2, zz3, zz4, zz5, zz6]
        refine tkH 6 ?_ rfl ?_ hHeld ?_; rotate_left; (intro w hSw; (try dsimp only at hSw); go_simp; try with_reducible rfl); try simp only [Act.put, zz1, zz2, zz3, zz4, zz5, zz6]
        refine wpAnyH_done (by kernel_rfl) ?_ _
        go_wp2
        go_roundw
        case rel => exact ⟨1, by go_num, .inr (.inl ⟨rfl, HP.out⟩), RX.out.trans (B2'.out.mono RX.out.size)⟩
        case measure => simp [intOf]
      · have hne : (p != p') = true := by simp [hp]
        have HP := Lib.hid hp
        clear hp
        go_upto_region 4 with (fail)
        refine wp_region_held_drew (S := fun W => (W.cell? ⟨w.heap.size, 0, none⟩ = some (.int .i64 p) ∧ W.cell? ⟨w.heap.size, 1, none⟩ = some (.int .i64 d) ∧ W.cell? ⟨w.heap.size + 1, 0, none⟩ = some (.int .i64 p') ∧ W.cell? ⟨w.heap.size + 1, 1, none⟩ = some (.int .i64 d'))) (by kernel_rfl) (⟨a0, a1, b0, b1⟩) (fun hHeld => ?_)
        obtain ⟨v0, hv0⟩ : ∃ v0, v0 = wr.drew := ⟨_, rfl⟩
        have BL0 : Hid (Below wr.heap.size wr v0) := by rw [hv0]; exact Below.drew (Below.refl _ _)
        rw [← hv0] at hHeld ⊢
        clear hv0
        refine tkH 0 ?_ rfl ?_ hHeld ?_; rotate_left; (intro w hSw; (try dsimp only at hSw); go_simp; try with_reducible rfl); try simp only [Act.put, zz1, zz2, zz3, zz4, zz5, zz6]
        refine tkH 1 ?_ rfl ?_ hHeld ?_; rotate_left; (intro w hSw; (try dsimp only at hSw); go_simp; try with_reducible rfl); try simp only [Act.put, zz1, zz2, zz3, zz4, zz5, zz6]
        refine tkH 3 ?_ rfl ?_ hHeld ?_; rotate_left; (intro w hSw; (try dsimp only at hSw); go_simp; try with_reducible rfl); try simp only [Act.put, zz1, zz2, zz3, zz4, zz5, zz6]
        refine tkH 4 ?_ rfl ?_ hHeld ?_; rotate_left; (intro w hSw; (try dsimp only at hSw); go_simp; try with_reducible rfl); try simp only [Act.put, zz1, zz2, zz3, zz4, zz5, zz6]
        refine wpAnyH_ready (rs := [2]) (by kernel_rfl) (by simp) ?_
        refine AllReadyH.cons (o := _) rfl (fun K0 hK0 => ?_) AllReadyH.nil
        go_simp
        refine (passOf_any _ _ _).mono ?_
        rintro e9 v1 ⟨rfl, hb⟩
        have B1' := Lib.hid (BL0.out.trans (hb.mono BL0.out.size))
        clear hb
        go_wp2_with fail
        refine hK0.out _ _ ((QS.out _ (RX.out.trans (B1'.out.mono RX.out.size))).1) (fun hHeld => ?_)
        clear hK0 K0
        try simp only [Act.put, zz1, zz2, zz3, zz4, zz5, zz6]
        refine wpAnyH_ready (rs := [5]) (by kernel_rfl) (by simp) ?_
        refine AllReadyH.cons (o := _) rfl (fun K0 hK0 => ?_) AllReadyH.nil
        go_simp
        refine (passOf_any _ _ _).mono ?_
        rintro e9 v2 ⟨rfl, hb⟩
        have B2' := Lib.hid (B1'.out.trans (hb.mono B1'.out.size))
        clear hb
        go_wp2_with fail
        refine hK0.out _ _ ((QS.out _ (RX.out.trans (B2'.out.mono RX.out.size))).1) (fun hHeld => ?_)
        clear hK0 K0
        try simp only [Act.put, zz1, zz2, zz3, zz4, zz5, zz6]
        refine tkH 6 ?_ rfl ?_ hHeld ?_; rotate_left; (intro w hSw; (try dsimp only at hSw); go_simp; try with_reducible rfl); try simp only [Act.put, zz1, zz2, zz3, zz4, zz5, zz6]
        refine wpAnyH_done (by kernel_rfl) ?_ _
        have RY := Lib.hid (RX.out.trans (B2'.out.mono RX.out.size))
        clear RX a0 a1 b0 b1 k0 k1 B2'
        obtain ⟨⟨a0, a1, b0, b1⟩, _⟩ := QS.out _ RY.out
        go_upto_region 5 with (fail)
        refine wp_region_held_drew (S := fun W => (W.cell? ⟨w.heap.size, 0, none⟩ = some (.int .i64 p) ∧ W.cell? ⟨w.heap.size, 1, none⟩ = some (.int .i64 d) ∧ W.cell? ⟨w.heap.size + 1, 0, none⟩ = some (.int .i64 p') ∧ W.cell? ⟨w.heap.size + 1, 1, none⟩ = some (.int .i64 d'))) (by kernel_rfl) (⟨a0, a1, b0, b1⟩) (fun hHeld => ?_)
        obtain ⟨v0, hv0⟩ : ∃ v0, v0 = v2.drew := ⟨_, rfl⟩
        have BL0 : Hid (Below v2.heap.size v2 v0) := by rw [hv0]; exact Below.drew (Below.refl _ _)
        rw [← hv0] at hHeld ⊢
        clear hv0
        refine tkH 0 ?_ rfl ?_ hHeld ?_; rotate_left; (intro w hSw; (try dsimp only at hSw); go_simp; try with_reducible rfl); try simp only [Act.put, zz1, zz2, zz3, zz4, zz5, zz6]
        refine tkH 1 ?_ rfl ?_ hHeld ?_; rotate_left; (intro w hSw; (try dsimp only at hSw); go_simp; try with_reducible rfl); try simp only [Act.put, zz1, zz2, zz3, zz4, zz5, zz6]
        refine tkH 3 ?_ rfl ?_ hHeld ?_; rotate_left; (intro w hSw; (try dsimp only at hSw); go_simp; try with_reducible rfl); try simp only [Act.put, zz1, zz2, zz3, zz4, zz5, zz6]
        refine tkH 4 ?_ rfl ?_ hHeld ?_; rotate_left; (intro w hSw; (try dsimp only at hSw); go_simp; try with_reducible rfl); try simp only [Act.put, zz1, zz2, zz3, zz4, zz5, zz6]
        refine wpAnyH_ready (rs := [2]) (by kernel_rfl) (by simp) ?_
        refine AllReadyH.cons (o := _) rfl (fun K0 hK0 => ?_) AllReadyH.nil
        go_simp
        refine (passOf_any _ _ _).mono ?_
        rintro e9 v1 ⟨rfl, hb⟩
        have B1' := Lib.hid (BL0.out.trans (hb.mono BL0.out.size))
        clear hb
        go_wp2_with fail
        refine hK0.out _ _ ((QS.out _ (RY.out.trans (B1'.out.mono RY.out.size))).1) (fun hHeld => ?_)
        clear hK0 K0
        try simp only [Act.put, zz1, zz2, zz3, zz4, zz5, zz6]
        refine wpAnyH_ready (rs := [5]) (by kernel_rfl) (by simp) ?_
        refine AllReadyH.cons (o := _) rfl (fun K0 hK0 => ?_) AllReadyH.nil
        go_simp
        refine (passOf_any _ _ _).mono ?_
        rintro e9 v2 ⟨rfl, hb⟩
        have B2' := Lib.hid (B1'.out.trans (hb.mono B1'.out.size))
        clear hb
        go_wp2_with fail
        refine hK0.out _ _ ((QS.out _ (RY.out.trans (B2'.out.mono RY.out.size))).1) (fun hHeld => ?_)
        clear hK0 K0
        try simp only [Act.put, zz1, zz2, zz3, zz4, zz5, zz6]
        refine tkH 6 ?_ rfl ?_ hHeld ?_; rotate_left; (intro w hSw; (try dsimp only at hSw); go_simp; try with_reducible rfl); try simp only [Act.put, zz1, zz2, zz3, zz4, zz5, zz6]
        refine tkH 7 ?_ rfl ?_ hHeld ?_; rotate_left; (intro w hSw; (try dsimp only at hSw); go_simp; try with_reducible rfl); try simp only [Act.put, zz1, zz2, zz3, zz4, zz5, zz6]
        refine wpAnyH_done (by kernel_rfl) ?_ _
        go_wp2
        go_ret
        exact ⟨ret_bool (by simp [lt4, HP.out]), BB.out _ (RY.out.trans (B2'.out.mono RY.out.size))⟩
    · have HQ := Lib.hid hpp
      clear hpp
      by_cases hp : d = d'
      · have hne : (d != d') = false := by simp [hp]
        have HP := Lib.hid hp
        clear hp
        go_upto_region 4 with (fail)
        refine wp_region_held_drew (S := fun W => (W.cell? ⟨w.heap.size, 0, none⟩ = some (.int .i64 p) ∧ W.cell? ⟨w.heap.size, 1, none⟩ = some (.int .i64 d) ∧ W.cell? ⟨w.heap.size + 1, 0, none⟩ = some (.int .i64 p') ∧ W.cell? ⟨w.heap.size + 1, 1, none⟩ = some (.int .i64 d'))) (by kernel_rfl) (⟨a0, a1, b0, b1⟩) (fun hHeld => ?_)
        obtain ⟨v0, hv0⟩ : ∃ v0, v0 = wr.drew := ⟨_, rfl⟩
        have BL0 : Hid (Below wr.heap.size wr v0) := by rw [hv0]; exact Below.drew (Below.refl _ _)
        rw [← hv0] at hHeld ⊢
        clear hv0
        refine tkH 0 ?_ rfl ?_ hHeld ?_; rotate_left; (intro w hSw; (try dsimp only at hSw); go_simp; try with_reducible rfl); try simp only [Act.put, zz1, zz2, zz3, zz4, zz5, zz6]
        refine tkH 1 ?_ rfl ?_ hHeld ?_; rotate_left; (intro w hSw; (try dsimp only at hSw); go_simp; try with_reducible rfl); try simp only [Act.put, zz1, zz2, zz3, zz4, zz5, zz6]
        refine tkH 3 ?_ rfl ?_ hHeld ?_; rotate_left; (intro w hSw; (try dsimp only at hSw); go_simp; try with_reducible rfl); try simp only [Act.put, zz1, zz2, zz3, zz4, zz5, zz6]
        refine tkH 4 ?_ rfl ?_ hHeld ?_; rotate_left; (intro w hSw; (try dsimp only at hSw); go_simp; try with_reducible rfl); try simp only [Act.put, zz1, zz2, zz3, zz4, zz5, zz6]
        refine wpAnyH_ready (rs := [2]) (by kernel_rfl) (by simp) ?_
        refine AllReadyH.cons (o := _) rfl (fun K0 hK0 => ?_) AllReadyH.nil
        go_simp
        refine (idOf_any _ _ _).mono ?_
        rintro e9 v1 ⟨rfl, hb⟩
        have B1' := Lib.hid (BL0.out.trans (hb.mono BL0.out.size))
        clear hb
        go_wp2_with fail
        refine hK0.out _ _ ((QS.out _ (RX.out.trans (B1'.out.mono RX.out.size))).1) (fun hHeld => ?_)
        clear hK0 K0
        try simp only [Act.put, zz1, zz2, zz3, zz4, zz5, zz6]
        refine wpAnyH_ready (rs := [5]) (by kernel_rfl) (by simp) ?_
        refine AllReadyH.cons (o := _) rfl (fun K0 hK0 => ?_) AllReadyH.nil
        go_simp
        refine (idOf_any _ _ _).mono ?_
        rintro e9 v2 ⟨rfl, hb⟩
        have B2' := Lib.hid (B1'.out.trans (hb.mono B1'.out.size))
        clear hb
        go_wp2_with fail
        refine hK0.out _ _ ((QS.out _ (RX.out.trans (B2'.out.mono RX.out.size))).1) (fun hHeld => ?_)
        clear hK0 K0
        try simp only [Act.put, zz1, zz2, zz3, zz4, zz5, zz6]
        refine tkH 6 ?_ rfl ?_ hHeld ?_; rotate_left; (intro w hSw; (try dsimp only at hSw); go_simp; try with_reducible rfl); try simp only [Act.put, zz1, zz2, zz3, zz4, zz5, zz6]
        refine wpAnyH_done (by kernel_rfl) ?_ _
        go_wp2
        go_roundw
        case rel => exact ⟨2, by go_num, .inr (.inr ⟨rfl, HQ.out, HP.out⟩), RX.out.trans (B2'.out.mono RX.out.size)⟩
        case measure => simp [intOf]
      · have hne : (d != d') = true := by simp [hp]
        have HP := Lib.hid hp
        clear hp
        go_upto_region 4 with (fail)
        refine wp_region_held_drew (S := fun W => (W.cell? ⟨w.heap.size, 0, none⟩ = some (.int .i64 p) ∧ W.cell? ⟨w.heap.size, 1, none⟩ = some (.int .i64 d) ∧ W.cell? ⟨w.heap.size + 1, 0, none⟩ = some (.int .i64 p') ∧ W.cell? ⟨w.heap.size + 1, 1, none⟩ = some (.int .i64 d'))) (by kernel_rfl) (⟨a0, a1, b0, b1⟩) (fun hHeld => ?_)
        obtain ⟨v0, hv0⟩ : ∃ v0, v0 = wr.drew := ⟨_, rfl⟩
        have BL0 : Hid (Below wr.heap.size wr v0) := by rw [hv0]; exact Below.drew (Below.refl _ _)
        rw [← hv0] at hHeld ⊢
        clear hv0
        refine tkH 0 ?_ rfl ?_ hHeld ?_; rotate_left; (intro w hSw; (try dsimp only at hSw); go_simp; try with_reducible rfl); try simp only [Act.put, zz1, zz2, zz3, zz4, zz5, zz6]
        refine tkH 1 ?_ rfl ?_ hHeld ?_; rotate_left; (intro w hSw; (try dsimp only at hSw); go_simp; try with_reducible rfl); try simp only [Act.put, zz1, zz2, zz3, zz4, zz5, zz6]
        refine tkH 3 ?_ rfl ?_ hHeld ?_; rotate_left; (intro w hSw; (try dsimp only at hSw); go_simp; try with_reducible rfl); try simp only [Act.put, zz1, zz2, zz3, zz4, zz5, zz6]
        refine tkH 4 ?_ rfl ?_ hHeld ?_; rotate_left; (intro w hSw; (try dsimp only at hSw); go_simp; try with_reducible rfl); try simp only [Act.put, zz1, zz2, zz3, zz4, zz5, zz6]
        refine wpAnyH_ready (rs := [2]) (by kernel_rfl) (by simp) ?_
        refine AllReadyH.cons (o := _) rfl (fun K0 hK0 => ?_) AllReadyH.nil
        go_simp
        refine (idOf_any _ _ _).mono ?_
        rintro e9 v1 ⟨rfl, hb⟩
        have B1' := Lib.hid (BL0.out.trans (hb.mono BL0.out.size))
        clear hb
        go_wp2_with fail
        refine hK0.out _ _ ((QS.out _ (RX.out.trans (B1'.out.mono RX.out.size))).1) (fun hHeld => ?_)
        clear hK0 K0
        try simp only [Act.put, zz1, zz2, zz3, zz4, zz5, zz6]
        refine wpAnyH_ready (rs := [5]) (by kernel_rfl) (by simp) ?_
        refine AllReadyH.cons (o := _) rfl (fun K0 hK0 => ?_) AllReadyH.nil
        go_simp
        refine (idOf_any _ _ _).mono ?_
        rintro e9 v2 ⟨rfl, hb⟩
        have B2' := Lib.hid (B1'.out.trans (hb.mono B1'.out.size))
        clear hb
        go_wp2_with fail
        refine hK0.out _ _ ((QS.out _ (RX.out.trans (B2'.out.mono RX.out.size))).1) (fun hHeld => ?_)
        clear hK0 K0
        try simp only [Act.put, zz1, zz2, zz3, zz4, zz5, zz6]
        refine tkH 6 ?_ rfl ?_ hHeld ?_; rotate_left; (intro w hSw; (try dsimp only at hSw); go_simp; try with_reducible rfl); try simp only [Act.put, zz1, zz2, zz3, zz4, zz5, zz6]
        refine wpAnyH_done (by kernel_rfl) ?_ _
        have RY := Lib.hid (RX.out.trans (B2'.out.mono RX.out.size))
        clear RX a0 a1 b0 b1 k0 k1 B2'
        obtain ⟨⟨a0, a1, b0, b1⟩, _⟩ := QS.out _ RY.out
        go_upto_region 5 with (fail)
        refine wp_region_held_drew (S := fun W => (W.cell? ⟨w.heap.size, 0, none⟩ = some (.int .i64 p) ∧ W.cell? ⟨w.heap.size, 1, none⟩ = some (.int .i64 d) ∧ W.cell? ⟨w.heap.size + 1, 0, none⟩ = some (.int .i64 p') ∧ W.cell? ⟨w.heap.size + 1, 1, none⟩ = some (.int .i64 d'))) (by kernel_rfl) (⟨a0, a1, b0, b1⟩) (fun hHeld => ?_)
        obtain ⟨v0, hv0⟩ : ∃ v0, v0 = v2.drew := ⟨_, rfl⟩
        have BL0 : Hid (Below v2.heap.size v2 v0) := by rw [hv0]; exact Below.drew (Below.refl _ _)
        rw [← hv0] at hHeld ⊢
        clear hv0
        refine tkH 0 ?_ rfl ?_ hHeld ?_; rotate_left; (intro w hSw; (try dsimp only at hSw); go_simp; try with_reducible rfl); try simp only [Act.put, zz1, zz2, zz3, zz4, zz5, zz6]
        refine tkH 1 ?_ rfl ?_ hHeld ?_; rotate_left; (intro w hSw; (try dsimp only at hSw); go_simp; try with_reducible rfl); try simp only [Act.put, zz1, zz2, zz3, zz4, zz5, zz6]
        refine tkH 3 ?_ rfl ?_ hHeld ?_; rotate_left; (intro w hSw; (try dsimp only at hSw); go_simp; try with_reducible rfl); try simp only [Act.put, zz1, zz2, zz3, zz4, zz5, zz6]
        refine tkH 4 ?_ rfl ?_ hHeld ?_; rotate_left; (intro w hSw; (try dsimp only at hSw); go_simp; try with_reducible rfl); try simp only [Act.put, zz1, zz2, zz3, zz4, zz5, zz6]
        refine wpAnyH_ready (rs := [2]) (by kernel_rfl) (by simp) ?_
        refine AllReadyH.cons (o := _) rfl (fun K0 hK0 => ?_) AllReadyH.nil
        go_simp
        refine (idOf_any _ _ _).mono ?_
        rintro e9 v1 ⟨rfl, hb⟩
        have B1' := Lib.hid (BL0.out.trans (hb.mono BL0.out.size))
        clear hb
        go_wp2_with fail
        refine hK0.out _ _ ((QS.out _ (RY.out.trans (B1'.out.mono RY.out.size))).1) (fun hHeld => ?_)
        clear hK0 K0
        try simp only [Act.put, zz1, zz2, zz3, zz4, zz5, zz6]
        refine wpAnyH_ready (rs := [5]) (by kernel_rfl) (by simp) ?_
        refine AllReadyH.cons (o := _) rfl (fun K0 hK0 => ?_) AllReadyH.nil
        go_simp
        refine (idOf_any _ _ _).mono ?_
        rintro e9 v2 ⟨rfl, hb⟩
        have B2' := Lib.hid (B1'.out.trans (hb.mono B1'.out.size))
        clear hb
        go_wp2_with fail
        refine hK0.out _ _ ((QS.out _ (RY.out.trans (B2'.out.mono RY.out.size))).1) (fun hHeld => ?_)
        clear hK0 K0
        try simp only [Act.put, zz1, zz2, zz3, zz4, zz5, zz6]
        refine tkH 6 ?_ rfl ?_ hHeld ?_; rotate_left; (intro w hSw; (try dsimp only at hSw); go_simp; try with_reducible rfl); try simp only [Act.put, zz1, zz2, zz3, zz4, zz5, zz6]
        refine tkH 7 ?_ rfl ?_ hHeld ?_; rotate_left; (intro w hSw; (try dsimp only at hSw); go_simp; try with_reducible rfl); try simp only [Act.put, zz1, zz2, zz3, zz4, zz5, zz6]
        refine wpAnyH_done (by kernel_rfl) ?_ _
        go_wp2
        go_ret
        exact ⟨ret_bool (by simp [lt4, HQ.out]), BB.out _ (RY.out.trans (B2'.out.mono RY.out.size))⟩
    · have HQ := Lib.hid hpp; have HD := Lib.hid hdd
      clear hpp hdd
      go_wp2
      go_ret
      exact ⟨ret_bool (by simp [lt4, HQ.out, HD.out]), BB.out _ RX.out⟩

theorem implIsLess_any (p d p' d' : Int) (w : World) :
    Calls Try.prog 21 #[.agg #[.int .i64 p, .int .i64 d], .agg #[.int .i64 p', .int .i64 d']] w fun e w' => e = .returned (.bool (lt4 p d p' d')) ∧ Below w.heap.size w w' := by
  obtain ⟨w3, hw3⟩ : ∃ w3, w3 = ((w.alloc (.cells #[.int .i64 p, .int .i64 d] 26)).alloc (.cells #[.int .i64 p', .int .i64 d'] 26)).alloc (.cells #[.func (.func 69) #[] #[], .func (.func 70) #[] #[]] 92) := ⟨_, rfl⟩
  have k3 : w3.heap[w.heap.size + 1 + 1]? = some (.cells #[.func (.func 69) #[] #[], .func (.func 70) #[] #[]] 92 (0, 0)) := by
    rw [hw3]
    have := heap_alloc_new ((w.alloc (.cells #[.int .i64 p, .int .i64 d] 26)).alloc (.cells #[.int .i64 p', .int .i64 d'] 26)) (.cells #[.func (.func 69) #[] #[], .func (.func 70) #[] #[]] 92)
    simp only [World.size_alloc] at this
    exact this
  have B3 : Hid (Below w.heap.size w w3) := by rw [hw3]; exact ((below_new w _).alloc (by simp) _).alloc (by simp; omega) _
  have LB := Lib.hid (lessBy_any p d p' d' (w.heap.size + 1 + 1) w3 (cell_of_row w3 _ 0 _ _ _ k3) (cell_of_row w3 _ 1 _ _ _ k3))
  have HW3 := Lib.hid hw3
  clear k3 hw3
  go_enter Try.func21, Try.ntmps21
  go_wp2_with fail
  rw [← HW3.out]
  refine LB.out.mono ?_
  rintro e w4 ⟨rfl, hb⟩
  have HB := Lib.hid (B3.out.trans (hb.mono B3.out.size))
  clear hb
  go_wp2
  go_ret
  exact ⟨rfl, HB.out⟩

end Go.Proofs.Ytckapndpefkcgaa
