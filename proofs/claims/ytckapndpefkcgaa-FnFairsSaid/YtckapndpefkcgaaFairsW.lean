/-
  The walk of FnFairs.
-/
import Derived.Test.YtckapndpefkcgaaDrawP5
import Derived.Test.YtckapndpefkcgaaDraw1d
import Derived.Test.YtckapndpefkcgaaMath9g
import Derived.Test.YtckapndpefkcgaaSpec5j
import Derived.Test.YtckapndpefkcgaaImpl5i
import Derived.Test.YtckapndpefkcgaaFair9c
set_option maxHeartbeats 1000000
namespace Go.Proofs.Ytckapndpefkcgaa
open Go.RowKit
set_option maxRecDepth 100000

theorem run_pr0f (q b : Int) (A B : Option Addr) (k c n d : Nat) (W : World) : (Instr.field 48 (.agg #[.int .i64 q, .slice A k c, .int .i64 b, .slice B n d]) 0).run Try.prog W = .ok (.int .i64 q) W := by kernel_rfl
/-- where picks were told: how many there are, who is there, and how far each one is from its share -/
structure FB10 (b : Int) (xs : List R3) (m : Nat) (ids : List Int) : Prop where
  il : ids.length = m
  m200 : m ≤ 200
  n5 : xs.length ≤ 5
  tk : ∀ i, i < xs.length → 1 ≤ gi (fl xs) (i * 3 + 1) ∧ gi (fl xs) (i * 3 + 1) ≤ 10
  far : ∀ i, i < xs.length → farAt ids (fl xs) (m : Int) (tka (fl xs) xs.length) xs.length i = false
theorem fb10_of {b : Int} {xs : List R3} {t : Int} {ids : List Int} {pb : Int} {ps : List R3} (h : picks5 b xs t = (0, ids, pb, ps)) : ∃ m : Nat, t = (m : Int) ∧ FB10 b xs m ids := by
  have h0 : (picks5 b xs t).1 = 0 := by rw [h]
  obtain ⟨s0, t0, t2⟩ := picks5_ok h0
  refine ⟨t.toNat, by omega, ?_⟩
  have e : picks5 b xs t = pks5 t.toNat [] b xs := by unfold picks5; rw [if_neg (fun q => q s0), if_neg (by omega)]
  have hl : ids.length = t.toNat := by
    have := (pks_adv t.toNat b xs s0 (by rw [← e]; exact h0)).2.2
    rw [← e, h] at this
    exact this
  refine ⟨hl, by omega, (sf5_zero s0).2.2.1.len, fun i hi => ?_, fun i hi => ?_⟩
  · have o := okR_parts ((In5.of s0).ok _ (g3_mem hi))
    have := okT_iff.1 o.2.1
    rw [(fl_get xs i hi).2.1]
    exact this
  · have := far_none h0 hi
    rw [h] at this
    rw [show ((t.toNat : Nat) : Int) = t by omega]
    exact this
theorem FB10.nums {b : Int} {xs : List R3} {m : Nat} {ids : List Int} (h : FB10 b xs m ids) {i : Nat} (hi : i < xs.length) (c : Nat) (hc : c = tmi ids (gi (fl xs) (i * 3)) ids.length) (all tk m1 m2 m4 : Int) (hall : all = tka (fl xs) xs.length) (htk : tk = gi (fl xs) (i * 3 + 1))
    (h1 : m1 = (c : Int) * all) (h2 : m2 = (m : Int) * tk) (h4 : m4 = (xs.length : Int) * tk) : (0 ≤ m1 ∧ m1 ≤ 100000) ∧ (0 ≤ m2 ∧ m2 ≤ 100000) ∧ (0 ≤ m4 ∧ m4 ≤ 100000) ∧ (0 ≤ all ∧ all ≤ 100000) ∧ m1 - m2 ≤ all + m4 ∧ m2 - m1 ≤ all + m4 := by
  have hf := h.far i hi
  have t1 := h.tk i hi
  have a1 := tka_le xs.length h.tk
  have c1 := tmi_le ids (gi (fl xs) (i * 3)) ids.length
  unfold farAt far9 at hf
  rw [← hc, ← hall, ← htk] at hf
  rw [← hall] at a1
  rw [← htk] at t1
  rw [← hc, h.il] at c1
  have n5 := h.n5
  have m200 := h.m200
  have b1 : 0 ≤ m1 ∧ m1 ≤ 200 * 50 := by rw [h1]; exact mul_box (A := 200) (B := 50) ⟨by omega, by omega⟩ ⟨a1.1, by omega⟩
  have b2 : 0 ≤ m2 ∧ m2 ≤ 200 * 10 := by rw [h2]; exact mul_box (A := 200) (B := 10) ⟨by omega, by omega⟩ ⟨by omega, t1.2⟩
  have b4 : 0 ≤ m4 ∧ m4 ≤ 5 * 10 := by rw [h4]; exact mul_box (A := 5) (B := 10) ⟨by omega, by omega⟩ ⟨by omega, t1.2⟩
  rw [← h1, ← h2] at hf
  have hm : max ((xs.length : Int) - 2) 0 * tk ≤ m4 := by rw [h4]; exact Int.mul_le_mul_of_nonneg_right (by omega) (by omega)
  have hf := of_decide_eq_false hf
  refine ⟨by omega, by omega, by omega, by omega, by omega, by omega⟩

set_option maxHeartbeats 32000000 in
theorem walkFairs (A : Option Addr) (k c : Nat) (b : Nat → Int) (w : World) (h : Sl w 0 w.heap.size A k (fun j => .int .u8 (b j))) (hb : ∀ j, 0 ≤ b j ∧ b j ≤ 255) (hk : k ≤ 1048576) :
    Calls Try.prog 4 #[.slice A k c] w fun e w' => e = .returned (.bool true) ∧ Below w.heap.size w w' := by
  have HBY := Lib.hid hb
  have CD : Hid (∀ W, Below w.heap.size w W → Sl W 0 w.heap.size A k (fun j => .int .u8 (b j))) := fun W hW => h.below hW (Nat.le_refl _)
  clear h hb
  go_enter Try.func4, Try.ntmps4
  go_wp2_with fail
  refine (lwBig_any A k c w).mono ?_
  rintro e w' ⟨rfl, rfl⟩
  have hk2 : ¬ ((1048576 : Int) < (k : Int)) := by omega
  have DD := Lib.hid (DrawIsFair_any 0 w.heap.size A k c b w hk HBY.out (CD.out w (Below.refl _ _)))
  go_wp2_with fail
  refine DD.out.mono ?_
  rintro e x1w ⟨b1, B1, c1, xs1, n1, rfl, hn1, hnn, ho, hbl⟩
  clear DD
  have BSx1w : Hid (Below w.heap.size w x1w) := hbl
  have Ux1w : Hid (Below w.heap.size w x1w) := BSx1w.out
  clear hbl
  clear hnn
  have OB1 := Lib.hid ho
  clear ho
  obtain ⟨x2w, hx2w⟩ : ∃ V, V = x1w.alloc (.cells #[.int .i64 b1, .slice B1 xs1.length c1] 43) := ⟨_, rfl⟩
  obtain ⟨q1, hq1⟩ : ∃ q, q = x1w.heap.size := ⟨_, rfl⟩
  have hzq1 : x1w.heap.size = q1 := hq1.symm
  have Kq1 : Hid (x2w.heap[q1]? = some (.cells #[.int .i64 b1, .slice B1 xs1.length c1] 43 (0, 0))) := by show _ = _; rw [hx2w, ← hzq1]; exact heap_alloc_new x1w _
  have BSx2w : Hid (Below x1w.heap.size x1w x2w) := by rw [hx2w]; exact below_new x1w _
  have Ux2w : Hid (Below w.heap.size w x2w) := Ux1w.out.trans (BSx2w.out.mono Ux1w.out.size)
  have HWx2w := Lib.hid hx2w; have HBq1 := Lib.hid hq1
  clear hzq1
  clear hx2w hq1
  go_upto_region 4 with (fail)
  rw [← HWx2w.out, ← HBq1.out]
  clear HWx2w HBq1
  have KK_q1 := Kq1.out
  have q0 := cell_of_row x2w _ 0 _ _ _ KK_q1; have q1 := cell_of_row x2w _ 1 _ _ _ KK_q1
  simp at q0 q1
  clear KK_q1
  obtain ⟨pq, ids, pb, ps, hq⟩ : ∃ k0 k1 k2 k3, picks5 b1 xs1 n1 = (k0, k1, k2, k3) := ⟨_, _, _, _, rfl⟩
  have EQP := Lib.hid hq
  have LP : Hid (ids.length ≤ 200 ∧ ps.length ≤ 6) := by have := picks5_len b1 xs1 n1; rw [hq] at this; exact this
  have IP0 := implPicksOf_any _ _ B1 c1 b1 xs1 n1 x2w (by omega) ((OR.sl0 OB1.out).below BSx2w.out (Nat.le_refl _))
  rw [hq] at IP0
  clear hq
  have DD := Lib.hid (IP0)
  clear IP0
  go_wp2_with fail
  refine DD.out.mono ?_
  rintro e x3w ⟨I2, e2, Q2, d2, rfl, hoi, ho, hbl⟩
  dsimp only
  clear DD
  have BSx3w : Hid (Below x2w.heap.size x2w x3w) := hbl
  have Ux3w : Hid (Below w.heap.size w x3w) := Ux2w.out.trans (BSx3w.out.mono Ux2w.out.size)
  clear hbl
  have OI2 := Lib.hid hoi
  clear hoi
  have OQ2 := Lib.hid ho
  clear ho
  clear q0 q1
  obtain ⟨x4w, hx4w⟩ : ∃ V, V = x3w.alloc (.cells #[.int .i64 pq, .slice I2 ids.length e2, .int .i64 pb, .slice Q2 ps.length d2] 48) := ⟨_, rfl⟩
  obtain ⟨q2, hq2⟩ : ∃ q, q = x3w.heap.size := ⟨_, rfl⟩
  have hzq2 : x3w.heap.size = q2 := hq2.symm
  have Kq2 : Hid (x4w.heap[q2]? = some (.cells #[.int .i64 pq, .slice I2 ids.length e2, .int .i64 pb, .slice Q2 ps.length d2] 48 (0, 0))) := by show _ = _; rw [hx4w, ← hzq2]; exact heap_alloc_new x3w _
  have BSx4w : Hid (Below x3w.heap.size x3w x4w) := by rw [hx4w]; exact below_new x3w _
  have Ux4w : Hid (Below w.heap.size w x4w) := Ux3w.out.trans (BSx4w.out.mono Ux3w.out.size)
  have HWx4w := Lib.hid hx4w; have HBq2 := Lib.hid hq2
  clear hzq2
  clear hx4w hq2
  go_upto_region 5 with (fail)
  rw [← HWx4w.out, ← HBq2.out]
  clear HWx4w HBq2
  obtain ⟨wy, hwy⟩ : ∃ V, V = x4w := ⟨_, rfl⟩
  have F : Hid (∀ W, Below wy.heap.size wy W → (W.cell? ⟨q1, 0, none⟩ = some (.int .i64 b1) ∧ W.cell? ⟨q1, 1, none⟩ = some (.slice B1 xs1.length c1)) ∧ (W.cell? ⟨q2, 0, none⟩ = some (.int .i64 pq) ∧ W.cell? ⟨q2, 1, none⟩ = some (.slice I2 ids.length e2) ∧ W.cell? ⟨q2, 2, none⟩ = some (.int .i64 pb) ∧ W.cell? ⟨q2, 3, none⟩ = some (.slice Q2 ps.length d2)) ∧ Sl W 0 wy.heap.size B1 (xs1.length * 3) (fun j => .int .i64 (gi (fl xs1) j)) ∧ Sl W 0 wy.heap.size I2 (ids.length) (fun j => .int .i64 (gi ids j)) ∧ Sl W 0 wy.heap.size Q2 (ps.length * 3) (fun j => .int .i64 (gi (fl ps) j)) ∧ Below w.heap.size w W) := fun W hW => by
    rw [hwy] at hW ⊢
    have sx1w := BSx1w.out.size
    have sx2w := BSx2w.out.size
    have sx3w := BSx3w.out.size
    have sx4w := BSx4w.out.size
    have fx3w : Below x3w.heap.size x3w W := BSx4w.out.trans (hW.mono sx4w)
    have fx2w : Below x2w.heap.size x2w W := BSx3w.out.trans (fx3w.mono sx3w)
    have fx1w : Below x1w.heap.size x1w W := BSx2w.out.trans (fx2w.mono sx2w)
    have fw : Below w.heap.size w W := BSx1w.out.trans (fx1w.mono sx1w)
    have jq1 := (fx2w.block q1 (Array.getElem?_eq_some_iff.1 Kq1.out).1).trans Kq1.out
    have jq2 := (hW.block q2 (Array.getElem?_eq_some_iff.1 Kq2.out).1).trans Kq2.out
    have gB1 := ((OR.sl0 OB1.out).below fx1w (Nat.le_refl _)).wide (Nat.zero_le _) (show x1w.heap.size ≤ x4w.heap.size by omega)
    have gI2 := ((OR.sl0 OI2.out).below fx3w (Nat.le_refl _)).wide (Nat.zero_le _) (show x3w.heap.size ≤ x4w.heap.size by omega)
    rw [Nat.mul_one] at gI2
    have gQ2 := ((OR.sl0 OQ2.out).below fx3w (Nat.le_refl _)).wide (Nat.zero_le _) (show x3w.heap.size ≤ x4w.heap.size by omega)
    exact ⟨⟨cell_of_row W _ 0 _ _ _ jq1, cell_of_row W _ 1 _ _ _ jq1⟩, ⟨cell_of_row W _ 0 _ _ _ jq2, cell_of_row W _ 1 _ _ _ jq2, cell_of_row W _ 2 _ _ _ jq2, cell_of_row W _ 3 _ _ _ jq2⟩, gB1, gI2, gQ2, fw⟩
  clear BSx1w Ux1w BSx2w Ux2w BSx3w Ux3w BSx4w Ux4w Kq1 Kq2 OB1 OI2 OQ2 CD HBY
  rw [← hwy]
  clear hwy
  have UP : ∀ {W W' : World}, Below wy.heap.size wy W → Below W.heap.size W W' → Below wy.heap.size wy W' := fun a b => a.trans (b.mono a.size)
  have KH : Hid (∀ W, Below wy.heap.size wy W → ((W.cell? ⟨q1, 0, none⟩ = some (.int .i64 b1) ∧ W.cell? ⟨q1, 1, none⟩ = some (.slice B1 xs1.length c1)) ∧ (W.cell? ⟨q2, 0, none⟩ = some (.int .i64 pq) ∧ W.cell? ⟨q2, 1, none⟩ = some (.slice I2 ids.length e2) ∧ W.cell? ⟨q2, 2, none⟩ = some (.int .i64 pb) ∧ W.cell? ⟨q2, 3, none⟩ = some (.slice Q2 ps.length d2))) ∧ Below wy.heap.size wy W) := fun W hW => by
    obtain ⟨h0, h1, _⟩ := F.out W hW
    exact ⟨⟨h0, h1⟩, hW⟩
  have SPP : Hid (∀ W, Below wy.heap.size wy W → Calls Try.prog 27 #[.agg #[.int .i64 b1, .slice B1 xs1.length c1], .int .i64 n1] W fun e w' => ∃ I7 e7 A7 c7, e = .returned (.agg #[.int .i64 pq, .slice I7 ids.length e7, .int .i64 pb, .slice A7 ps.length c7]) ∧ Below wy.heap.size wy w') := fun W hW => by
    obtain ⟨_, _, hr, _, _, _⟩ := F.out W hW
    have := specPicksOf_any _ _ B1 c1 b1 xs1 n1 W (by omega) hr
    rw [EQP.out] at this
    exact this.mono fun e w' ⟨I, d, A, c, he, hoi, ho, hb⟩ => ⟨I, d, A, c, he, UP hW hb⟩
  have IFF : Hid (∀ W, Below wy.heap.size wy W → Calls Try.prog 28 #[.agg #[.int .i64 b1, .slice B1 xs1.length c1], .int .i64 n1] W fun e w' => e = .returned (.bool (pq == 0)) ∧ Below wy.heap.size wy w') := fun W hW => by
    obtain ⟨_, _, hr, _, _, _⟩ := F.out W hW
    have := implIsFair_any _ _ B1 c1 b1 xs1 n1 W (by omega) hr
    rw [fair9_eq, EQP.out] at this
    exact this.mono fun e w' hh => ⟨hh.1, UP hW hh.2⟩
  go_cut [38] from 13 (fun x wx => x = .bool false ∧ Below wy.heap.size wy wx)
  case first => as_aux_lemma =>
    have y1 : (pq != pq) = false := by simp
    have y2 : ((pq == 0) != (pq == 0)) = false := by simp
    have fp0 := fun (q b : Int) (A B : Option Addr) (k c n d : Nat) (W : World) => run_pr0f q b A B k c n d W
    refine wp_region_held_drew (S := fun W => ((W.cell? ⟨q1, 0, none⟩ = some (.int .i64 b1) ∧ W.cell? ⟨q1, 1, none⟩ = some (.slice B1 xs1.length c1)) ∧ (W.cell? ⟨q2, 0, none⟩ = some (.int .i64 pq) ∧ W.cell? ⟨q2, 1, none⟩ = some (.slice I2 ids.length e2) ∧ W.cell? ⟨q2, 2, none⟩ = some (.int .i64 pb) ∧ W.cell? ⟨q2, 3, none⟩ = some (.slice Q2 ps.length d2))) ∧ Below wy.heap.size wy W) (by kernel_rfl) (KH.out _ (Below.drew (Below.refl _ _))) (fun hHeld => ?_)
    obtain ⟨v0, hv0⟩ : ∃ v0, v0 = wy.drew := ⟨_, rfl⟩
    have BL0 : Hid (Below wy.heap.size wy v0) := by rw [hv0]; exact Below.drew (Below.refl _ _)
    rw [← hv0] at hHeld ⊢
    clear hv0
    refine wpAnyH_take (i := 0) (oi := _) (v := ?_) rfl (by kernel_rfl) (by kernel_rfl) (by kernel_rfl) (fun _ _ _ h => h) (Or.inl ⟨by kernel_rfl, ?_⟩) hHeld ?_
    rotate_left
    · (intro w hSw; (try dsimp only at hSw); go_simp; try with_reducible rfl)
    try simp only [Act.put, List.getElem_toArray, List.getElem_cons_succ, List.getElem_cons_zero, List.setIfInBounds_toArray, List.set_cons_zero, List.set_cons_succ]
    refine wpAnyH_take (i := 1) (oi := _) (v := ?_) rfl (by kernel_rfl) (by kernel_rfl) (by kernel_rfl) (fun _ _ _ h => h) (Or.inl ⟨by kernel_rfl, ?_⟩) hHeld ?_
    rotate_left
    · (intro w hSw; (try dsimp only at hSw); go_simp; try with_reducible rfl)
    try simp only [Act.put, List.getElem_toArray, List.getElem_cons_succ, List.getElem_cons_zero, List.setIfInBounds_toArray, List.set_cons_zero, List.set_cons_succ]
    refine wpAnyH_take (i := 2) (oi := _) (v := ?_) rfl (by kernel_rfl) (by kernel_rfl) (by kernel_rfl) (fun _ _ _ h => h) (Or.inl ⟨by kernel_rfl, ?_⟩) hHeld ?_
    rotate_left
    · (intro w hSw; (try dsimp only at hSw); go_simp; try with_reducible rfl)
    try simp only [Act.put, List.getElem_toArray, List.getElem_cons_succ, List.getElem_cons_zero, List.setIfInBounds_toArray, List.set_cons_zero, List.set_cons_succ]
    refine wpAnyH_take (i := 3) (oi := _) (v := ?_) rfl (by kernel_rfl) (by kernel_rfl) (by kernel_rfl) (fun _ _ _ h => h) (Or.inl ⟨by kernel_rfl, ?_⟩) hHeld ?_
    rotate_left
    · (intro w hSw; (try dsimp only at hSw); go_simp; try with_reducible rfl)
    try simp only [Act.put, List.getElem_toArray, List.getElem_cons_succ, List.getElem_cons_zero, List.setIfInBounds_toArray, List.set_cons_zero, List.set_cons_succ]
    refine wpAnyH_ready (rs := [4]) (by kernel_rfl) (by simp) ?_
    refine AllReadyH.cons (o := _) rfl (fun K0 hK0 => ?_) AllReadyH.nil
    go_simp
    refine (SPP.out _ (by go_split_ands; assumption)).mono ?_
    rintro e9 v1 ⟨I1_, e1_, A1_, k1_, rfl, hv1⟩
    go_wp2_with fail
    skip
    refine hK0.out _ _ (KH.out _ hv1) (fun hHeld => ?_)
    clear hK0 K0
    try simp only [Act.put, List.getElem_toArray, List.getElem_cons_succ, List.getElem_cons_zero, List.setIfInBounds_toArray, List.set_cons_zero, List.set_cons_succ]
    refine wpAnyH_take (i := 5) (oi := _) (v := ?_) rfl (by kernel_rfl) (by kernel_rfl) (by kernel_rfl) (fun _ _ _ h => h) (Or.inl ⟨by kernel_rfl, ?_⟩) hHeld ?_
    rotate_left
    · (intro w hSw; (try dsimp only at hSw); go_simp; try with_reducible rfl)
    try simp only [Act.put, List.getElem_toArray, List.getElem_cons_succ, List.getElem_cons_zero, List.setIfInBounds_toArray, List.set_cons_zero, List.set_cons_succ]
    refine wpAnyH_take (i := 6) (oi := _) (v := ?_) rfl (by kernel_rfl) (by kernel_rfl) (by kernel_rfl) (fun _ _ _ h => h) (Or.inl ⟨by kernel_rfl, ?_⟩) hHeld ?_
    rotate_left
    · (intro w hSw; (try dsimp only at hSw); go_simp; try with_reducible rfl)
    try simp only [Act.put, List.getElem_toArray, List.getElem_cons_succ, List.getElem_cons_zero, List.setIfInBounds_toArray, List.set_cons_zero, List.set_cons_succ]
    refine wpAnyH_take (i := 7) (oi := _) (v := ?_) rfl (by kernel_rfl) (by kernel_rfl) (by kernel_rfl) (fun _ _ _ h => h) (Or.inl ⟨by kernel_rfl, ?_⟩) hHeld ?_
    rotate_left
    · (intro w hSw; (try dsimp only at hSw); go_simp; try with_reducible rfl)
    try simp only [Act.put, List.getElem_toArray, List.getElem_cons_succ, List.getElem_cons_zero, List.setIfInBounds_toArray, List.set_cons_zero, List.set_cons_succ]
    refine wpAnyH_take (i := 8) (oi := _) (v := ?_) rfl (by kernel_rfl) (by kernel_rfl) (by kernel_rfl) (fun _ _ _ h => h) (Or.inl ⟨by kernel_rfl, ?_⟩) hHeld ?_
    rotate_left
    · (intro w hSw; (try dsimp only at hSw); go_simp; try with_reducible rfl)
    try simp only [Act.put, List.getElem_toArray, List.getElem_cons_succ, List.getElem_cons_zero, List.setIfInBounds_toArray, List.set_cons_zero, List.set_cons_succ]
    refine wpAnyH_take (i := 9) (oi := _) (v := ?_) rfl (by kernel_rfl) (by kernel_rfl) (by kernel_rfl) (fun _ _ _ h => h) (Or.inl ⟨by kernel_rfl, ?_⟩) hHeld ?_
    rotate_left
    · (intro w hSw; (try dsimp only at hSw); go_simp; try with_reducible rfl)
    try simp only [Act.put, List.getElem_toArray, List.getElem_cons_succ, List.getElem_cons_zero, List.setIfInBounds_toArray, List.set_cons_zero, List.set_cons_succ]
    refine wpAnyH_take (i := 11) (oi := _) (v := ?_) rfl (by kernel_rfl) (by kernel_rfl) (by kernel_rfl) (fun _ _ _ h => h) (Or.inl ⟨by kernel_rfl, ?_⟩) hHeld ?_
    rotate_left
    · (intro w hSw; (try dsimp only at hSw); go_simp; try with_reducible rfl)
    try simp only [Act.put, List.getElem_toArray, List.getElem_cons_succ, List.getElem_cons_zero, List.setIfInBounds_toArray, List.set_cons_zero, List.set_cons_succ]
    refine wpAnyH_take (i := 12) (oi := _) (v := ?_) rfl (by kernel_rfl) (by kernel_rfl) (by kernel_rfl) (fun _ _ _ h => h) (Or.inl ⟨by kernel_rfl, ?_⟩) hHeld ?_
    rotate_left
    · (intro w hSw; (try dsimp only at hSw); go_simp; try with_reducible rfl)
    try simp only [Act.put, List.getElem_toArray, List.getElem_cons_succ, List.getElem_cons_zero, List.setIfInBounds_toArray, List.set_cons_zero, List.set_cons_succ]
    refine wpAnyH_take (i := 13) (oi := _) (v := ?_) rfl (by kernel_rfl) (by kernel_rfl) (by kernel_rfl) (fun _ _ _ h => h) (Or.inl ⟨by kernel_rfl, ?_⟩) hHeld ?_
    rotate_left
    · (intro w hSw; (try dsimp only at hSw); go_simp; try with_reducible rfl)
    try simp only [Act.put, List.getElem_toArray, List.getElem_cons_succ, List.getElem_cons_zero, List.setIfInBounds_toArray, List.set_cons_zero, List.set_cons_succ]
    refine wpAnyH_ready (rs := [10]) (by kernel_rfl) (by simp) ?_
    refine AllReadyH.cons (o := _) rfl (fun K0 hK0 => ?_) AllReadyH.nil
    go_simp
    refine (IFF.out _ (by go_split_ands; assumption)).mono ?_
    rintro e9 v2 ⟨rfl, hv2⟩
    go_wp2_with fail
    skip
    refine hK0.out _ _ (KH.out _ hv2) (fun hHeld => ?_)
    clear hK0 K0
    try simp only [Act.put, List.getElem_toArray, List.getElem_cons_succ, List.getElem_cons_zero, List.setIfInBounds_toArray, List.set_cons_zero, List.set_cons_succ]
    refine wpAnyH_take (i := 14) (oi := _) (v := ?_) rfl (by kernel_rfl) (by kernel_rfl) (by kernel_rfl) (fun _ _ _ h => h) (Or.inl ⟨by kernel_rfl, ?_⟩) hHeld ?_
    rotate_left
    · (intro w hSw; (try dsimp only at hSw); go_simp; try with_reducible rfl)
    try simp only [Act.put, List.getElem_toArray, List.getElem_cons_succ, List.getElem_cons_zero, List.setIfInBounds_toArray, List.set_cons_zero, List.set_cons_succ]
    refine wpAnyH_take (i := 15) (oi := _) (v := ?_) rfl (by kernel_rfl) (by kernel_rfl) (by kernel_rfl) (fun _ _ _ h => h) (Or.inl ⟨by kernel_rfl, ?_⟩) hHeld ?_
    rotate_left
    · (intro w hSw; (try dsimp only at hSw); go_simp; try with_reducible rfl)
    try simp only [Act.put, List.getElem_toArray, List.getElem_cons_succ, List.getElem_cons_zero, List.setIfInBounds_toArray, List.set_cons_zero, List.set_cons_succ]
    refine wpAnyH_done (by kernel_rfl) ?_ _
    clear hHeld
    go_wp2_with fail
    go_meet
    exact ⟨rfl, hv2⟩
  case rest =>
    rename World => va
    obtain ⟨rfl, hb⟩ := hcut
    have BB := Lib.hid hb
    clear hb SPP IFF KH
    by_cases hp : pq = 0
    case neg =>
      have z : (pq != 0) = true := by simp [hp]
      obtain ⟨_, ⟨u0, u1, u2, u3⟩, _, _, _, bw⟩ := F.out va BB.out
      have BW := Lib.hid bw
      clear bw
      go_wp2
      go_ret
      exact ⟨rfl, BW.out⟩
    subst hp
    obtain ⟨m, rfl, hfb⟩ := fb10_of EQP.out
    have FX := Lib.hid hfb
    have n5 := hfb.n5
    have m200 := hfb.m200
    have L200 : ids.length ≤ 200 := by rw [hfb.il]; exact m200
    clear hfb EQP LP hn1
    have z : ((0 : Int) != 0) = false := by simp
    obtain ⟨_, ⟨u0, u1, u2, u3⟩, _, _, _, _⟩ := F.out va BB.out
    go_upto_region 9 with (fail)
    clear u0 u1 u2 u3
    go_wp2_with fail
    go_loopw [6, 7] (fun a i wr => ∃ j : Nat, j ≤ xs1.length ∧ a = .int .i64 (tka (fl xs1) j) ∧ i = .int .i64 (j : Int) ∧ Below wy.heap.size wy wr) (fun _ i _ => xs1.length - (intOf i).toNat)
    case atStart => exact ⟨0, Nat.zero_le _, rfl, rfl, BB.out⟩
    case round =>
      obtain ⟨j, hj, rfl, rfl, hb⟩ := hrel
      have BL := Lib.hid hb
      clear hb
      obtain ⟨⟨u0, u1⟩, _, hr1, _, _, _⟩ := F.out wr BL.out
      by_cases hlt : j < xs1.length
      · obtain ⟨bb, off, rfl, _, _, hc⟩ := hr1.at_ (show j * 3 < xs1.length * 3 by omega)
        have c1' : wr.cell? ⟨bb, off + j * 3 + 1, none⟩ = some (.int .i64 (gi (fl xs1) (j * 3 + 1))) := hc (j * 3 + 1) (by omega)
        have NX := Lib.hid (show tka (fl xs1) (j + 1) = tka (fl xs1) j + gi (fl xs1) (j * 3 + 1) from rfl)
        have NL := tka_le j fun i hi => FX.out.tk i (by omega)
        have NL2 := FX.out.tk j hlt
        have z0 : (0 : Int) ≤ (j : Int) := by omega
        have z1 : (j : Int) < (xs1.length : Int) := by omega
        have wr1 : IntKind.i64.wrap (tka (fl xs1) j + gi (fl xs1) (j * 3 + 1)) = tka (fl xs1) j + gi (fl xs1) (j * 3 + 1) := IntWalk.i64_in _ (by omega)
        clear hc hr1
        go_wp2
        go_roundw
        case rel => exact ⟨j + 1, by omega, by rw [NX.out], by go_num, BL.out⟩
        case measure => simp [intOf]; omega
      · have hkn : j = xs1.length := by omega
        have z1 : ¬ (j : Int) < (xs1.length : Int) := by omega
        obtain ⟨all, hall⟩ : ∃ all, all = tka (fl xs1) xs1.length := ⟨_, rfl⟩
        have HA := Lib.hid hall
        clear hr1
        rw [hkn, ← hall]
        rw [hkn] at z1
        clear hkn hall hlt hj
        go_upto_region 14 with (fail)
        clear u0 u1 BB
        obtain ⟨wo, hwo⟩ : ∃ wo, wo = wr := ⟨_, rfl⟩
        subst hwo
        go_wp2_with fail
        go_loopw [8] (fun i wr => ∃ j : Nat, j ≤ xs1.length ∧ i = .int .i64 (j : Int) ∧ Below wy.heap.size wy wr) (fun i _ => xs1.length - (intOf i).toNat)
        case atStart => exact ⟨0, Nat.zero_le _, rfl, BL.out⟩
        case round =>
          obtain ⟨j, hj, rfl, hb⟩ := hrel
          have BM := Lib.hid hb
          clear hb BL
          obtain ⟨⟨u0, u1⟩, _, _, _, _, _⟩ := F.out wr BM.out
          by_cases hlt : j < xs1.length
          · have z0 : (0 : Int) ≤ (j : Int) := by omega
            have z1 : (j : Int) < (xs1.length : Int) := by omega
            obtain ⟨id, hid⟩ : ∃ id, id = gi (fl xs1) (j * 3) := ⟨_, rfl⟩
            have HID := Lib.hid hid
            clear hid
            go_upto_region 18 with (fail)
            clear u0 u1
            obtain ⟨wp, hwp⟩ : ∃ wp, wp = wr := ⟨_, rfl⟩
            subst hwp
            go_wp2_with fail
            go_loopw [9, 10] (fun a i wr => ∃ q : Nat, q ≤ ids.length ∧ a = .int .i64 ((tmi ids id q : Nat) : Int) ∧ i = .int .i64 (q : Int) ∧ Below wy.heap.size wy wr) (fun _ i _ => ids.length - (intOf i).toNat)
            case atStart => exact ⟨0, Nat.zero_le _, rfl, rfl, BM.out⟩
            case round =>
              obtain ⟨q, hq, rfl, rfl, hb⟩ := hrel
              have BN := Lib.hid hb
              clear hb
              obtain ⟨⟨u0, u1⟩, ⟨v0, v1, v2, v3⟩, hr1, hr2, _, _⟩ := F.out wr BN.out
              obtain ⟨bb, off, rfl, _, _, hc⟩ := hr1.at_ (show j * 3 < xs1.length * 3 by omega)
              have TL := tmi_le ids id q
              have IL := FX.out.il
              by_cases hlq : q < ids.length
              · obtain ⟨bi, offi, rfl, _, _, hci⟩ := hr2.at_ hlq
                have d0 : wr.cell? ⟨bb, off + j * 3, none⟩ = some (.int .i64 id) := by rw [HID.out]; exact hc (j * 3) (by omega)
                have d1 : wr.cell? ⟨bi, offi + q, none⟩ = some (.int .i64 (gi ids q)) := hci q hlq
                have w0 : (0 : Int) ≤ (q : Int) := by omega
                have w1 : (q : Int) < (ids.length : Int) := by omega
                have NX : Hid (tmi ids id (q + 1) = tmi ids id q + (if gi ids q = id then 1 else 0)) := rfl
                generalize gi ids q = idq at *
                generalize tmi ids id q = tq at *
                clear hc hci hr1 hr2 IL
                go_wp2_with fail
                go_quiet (fail)
                by_cases he : idq = id
                · have NX2 : Hid (tmi ids id (q + 1) = tq + 1) := by have := NX.out; rw [if_pos he] at this; exact this
                  have y : (idq == id) = true := by simp [he]
                  have HE := Lib.hid he
                  clear he NX
                  go_wp2
                  go_roundw
                  case rel => exact ⟨q + 1, by omega, by rw [NX2.out]; go_num, by go_num, below_drewN BN.out _⟩
                  case measure => simp [intOf]; omega
                · have NX2 : Hid (tmi ids id (q + 1) = tq) := by have := NX.out; rw [if_neg he] at this; exact this
                  have y : (idq == id) = false := by simp [he]
                  clear he NX
                  go_wp2
                  go_roundw
                  case rel => exact ⟨q + 1, by omega, by rw [NX2.out], by go_num, below_drewN BN.out _⟩
                  case measure => simp [intOf]; omega
              · have hqn : q = ids.length := by omega
                have w1 : ¬ (q : Int) < (ids.length : Int) := by omega
                obtain ⟨c, hcc⟩ : ∃ c : Nat, c = tmi ids id ids.length := ⟨_, rfl⟩
                obtain ⟨tk, htk⟩ : ∃ tk, tk = gi (fl xs1) (j * 3 + 1) := ⟨_, rfl⟩
                obtain ⟨m1, hm1⟩ : ∃ v, v = (c : Int) * all := ⟨_, rfl⟩
                obtain ⟨m2, hm2⟩ : ∃ v, v = (m : Int) * tk := ⟨_, rfl⟩
                obtain ⟨m4, hm4⟩ : ∃ v, v = (xs1.length : Int) * tk := ⟨_, rfl⟩
                obtain ⟨p1, p2, p4, pa, p5, p6⟩ := FX.out.nums hlt c (by rw [hcc, HID.out]) all tk m1 m2 m4 HA.out htk hm1 hm2 hm4
                have wm1 : IntKind.i64.wrap ((c : Int) * all) = m1 := by rw [← hm1]; exact IntWalk.i64_in _ (by omega)
                have wm2 : IntKind.i64.wrap ((m : Int) * tk) = m2 := by rw [← hm2]; exact IntWalk.i64_in _ (by omega)
                have wm4 : IntKind.i64.wrap ((xs1.length : Int) * tk) = m4 := by rw [← hm4]; exact IntWalk.i64_in _ (by omega)
                have wd : IntKind.i64.wrap (m1 - m2) = m1 - m2 := IntWalk.i64_in _ (by omega)
                have wa : IntKind.i64.wrap (all + m4) = all + m4 := IntWalk.i64_in _ (by omega)
                have wn : IntKind.i64.wrap (-(m1 - m2)) = m2 - m1 := by rw [show -(m1 - m2) = m2 - m1 by omega]; exact IntWalk.i64_in _ (by omega)
                have wn2 : IntKind.i64.wrap (m2 - m1) = m2 - m1 := IntWalk.i64_in _ (by omega)
                have t1 : decide (all + m4 < m1 - m2) = false := decide_eq_false (by omega)
                have t2 : decide (all + m4 < m2 - m1) = false := decide_eq_false (by omega)
                have t3 : ¬ all + m4 < m1 - m2 := by omega
                have t4 : ¬ all + m4 < m2 - m1 := by omega
                have d1 : wr.cell? ⟨bb, off + j * 3 + 1, none⟩ = some (.int .i64 tk) := by rw [htk]; exact hc (j * 3 + 1) (by omega)
                rw [hqn, ← hcc]
                rw [hqn] at w1
                clear hm1 hm2 hm4 hcc htk hc hr1 hr2 hqn hlq hq TL IL p5 p6
                go_upto_region 23 with (fail)
                clear v0 v1 v2 v3
                go_wp2_with fail
                go_quiet (fail)
                go_wp2
                go_roundw
                case rel => exact ⟨j + 1, by omega, by go_num, below_drewN BN.out _⟩
                case measure => simp [intOf]; omega
          · have z1 : ¬ (j : Int) < (xs1.length : Int) := by omega
            obtain ⟨_, ⟨v0, v1, v2, v3⟩, _, _, _, bw⟩ := F.out wr BM.out
            have BW := Lib.hid bw
            have IL : ((ids.length : Int) == (m : Int)) = true := by rw [FX.out.il]; simp
            have IL2 : (ids.length == m) = true := by rw [FX.out.il]; simp
            clear bw
            go_wp2
            go_ret
            exact ⟨rfl, BW.out⟩

end Go.Proofs.Ytckapndpefkcgaa
