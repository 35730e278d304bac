/-
  The walk of FnWindows.
-/
import Derived.Test.YtkhphkfbjbhgaaaGreatDrawD3
import Derived.Test.YtkhphkfbjbhgaaaGreatLw3
import Derived.Test.YtkhphkfbjbhgaaaGreatMath3w
import Derived.Test.YtkhphkfbjbhgaaaGreatImpl3c
import Derived.Test.YtkhphkfbjbhgaaaGreatRunKernelW
namespace Go.Proofs.YtkhphkfbjbhgaaaGreat
open Go.RowKit
set_option maxRecDepth 100000

set_option maxHeartbeats 1000000 in
theorem lwNums_same (lo hi lo' hi' : Nat) (A A' : Option Addr) (xs : List Int) (n c c' : Nat) (w : World) (hn : n * 8 ≤ 140737488351232) (ex : xs.length = n)
    (h : Sl w lo hi A n (fun k => .int .i64 (gi xs k))) (h' : Sl w lo' hi' A' n (fun k => .int .i64 (gi xs k))) :
    Calls Tryz.prog 37 #[.slice A n c, .slice A' n c'] w fun e w' => e = .returned (.bool true) ∧ Below w.heap.size w w' :=
  (lwNums_any lo hi lo' hi' A A' xs xs n n c c' w hn ex ex h h').mono fun e w' hh => ⟨hh.1.trans (by simp), hh.2⟩
set_option maxHeartbeats 1000000 in
theorem implSK_same (lo hi lo' hi' : Nat) (p p' : Rq) (K : Ker) (cs ns : List Int) (w : World) (h : RQ w lo hi p K cs ns) (h' : RQ w lo' hi' p' K cs ns) (sm : p.n1 ≤ 12 ∧ p.n2 ≤ 4 ∧ p.n3 ≤ 4) :
    Calls Tryz.prog 39 #[.agg #[.slice p.A1 p.n1 p.c1, .slice p.A2 p.n2 p.c2, .slice p.A3 p.n3 p.c3, .int .i64 K.tick, .int .i64 K.run], .agg #[.slice p'.A1 p'.n1 p'.c1, .slice p'.A2 p'.n2 p'.c2, .slice p'.A3 p'.n3 p'.c3, .int .i64 K.tick, .int .i64 K.run]] w fun e w' => e = .returned (.bool true) ∧ Below w.heap.size w w' :=
  (implSameKernels_any lo hi lo' hi' p.A1 p.n1 p.c1 p.A2 p.n2 p.c2 p.A3 p.n3 p.c3 p'.A1 p'.n1 p'.c1 p'.A2 p'.n2 p'.c2 p'.A3 p'.n3 p'.c3 K K w (by omega) (by omega) (by omega) h.krd h'.krd).mono fun e w' hh => ⟨hh.1.trans (by simp), hh.2⟩
set_option maxHeartbeats 1000000 in
theorem RQ.codes {w : World} {lo hi : Nat} {p : Rq} {K : Ker} {cs ns : List Int} (h : RQ w lo hi p K cs ns) : Sl w p.g4 (p.g4 + 1) p.A4 p.n4 (fun k => .int .i64 (gi cs k)) := h.m4.sl
set_option maxHeartbeats 1000000 in
theorem RQ.notes {w : World} {lo hi : Nat} {p : Rq} {K : Ker} {cs ns : List Int} (h : RQ w lo hi p K cs ns) : Sl w p.g5 (p.g5 + 1) p.A5 (p.n5 * 3) (fun k => .int .i64 (gi ns k)) := h.m5.sl
set_option maxHeartbeats 1000000 in
theorem RQ.same {w : World} {lo hi lo' hi' : Nat} {p p' : Rq} {K : Ker} {cs ns : List Int} (h : RQ w lo hi p K cs ns) (h' : RQ w lo' hi' p' K cs ns) : p'.n4 = p.n4 ∧ p'.n5 = p.n5 := by
  have a := h.l4; have b := h'.l4; have c := h.l5; have d := h'.l5
  omega
set_option maxHeartbeats 1000000 in
theorem Tryz.elem_slE : Tryz.prog.underlying 27 = some (.slice (Tryz.prog.elem 27)) := by kernel_rfl
set_option maxHeartbeats 1000000 in
theorem Tryz.el_slE : Tryz.prog.elem 27 = 78 := by kernel_rfl
set_option maxHeartbeats 1000000 in
theorem size_E (W : World) : (sizeOf 78).run Tryz.prog W = .ok 7 W := by
  obtain ⟨i0, hi0, hz0, hz1, hz2⟩ := info_parts Tryz.info_EventD
  simp [sizeOf, typeInfo, hi0, hz1]
set_option maxHeartbeats 1000000 in
theorem run_cutE {A : Option Addr} {n c j : Nat} (h : Own5 A n c) (hj : j ≤ n) (W : World) :
    (Instr.sliceAt 27 (.slice A n c) none (some (.int .i64 (j : Int))) none).run Tryz.prog W = .ok (.slice A j c) W := by
  obtain ⟨cp, ⟨rfl, rfl, rfl⟩ | ⟨b, rfl⟩⟩ := h
  · obtain rfl : j = 0 := by omega
    rw [run_sliceAt_slice _ _ _ _ _ _ Tryz.elem_slE, run_slice_h _ _ _ _ _ Tryz.elem_slE .i64 ((0 : Nat) : Int) (by omega) (by omega), Tryz.el_slE, size_E]
    simp [Result.andThen, sliced]
  · rw [run_sliceAt_slice _ _ _ _ _ _ Tryz.elem_slE, run_slice_h _ _ _ _ _ Tryz.elem_slE .i64 (j : Int) (by omega) (by omega), Tryz.el_slE, size_E]
    have e0 : (⟨b, 0, none⟩ : Addr).add 0 = ⟨b, 0, none⟩ := by simp [Addr.add]
    simp [Result.andThen, sliced, e0]
set_option maxHeartbeats 1000000 in
theorem Tryz.elem_slI : Tryz.prog.underlying 32 = some (.slice (Tryz.prog.elem 32)) := by kernel_rfl
set_option maxHeartbeats 1000000 in
theorem Tryz.el_slI : Tryz.prog.elem 32 = 2 := by kernel_rfl
set_option maxHeartbeats 1000000 in
theorem size_I (W : World) : (sizeOf 2).run Tryz.prog W = .ok 1 W := by
  obtain ⟨i0, hi0, hz0, hz1, hz2⟩ := info_parts Tryz.info_i64
  simp [sizeOf, typeInfo, hi0, hz1]
set_option maxHeartbeats 1000000 in
theorem run_cutI {A : Option Addr} {n c j : Nat} (h : Own5 A n c) (hj : j ≤ n) (W : World) :
    (Instr.sliceAt 32 (.slice A n c) none (some (.int .i64 (j : Int))) none).run Tryz.prog W = .ok (.slice A j c) W := by
  obtain ⟨cp, ⟨rfl, rfl, rfl⟩ | ⟨b, rfl⟩⟩ := h
  · obtain rfl : j = 0 := by omega
    rw [run_sliceAt_slice _ _ _ _ _ _ Tryz.elem_slI, run_slice_h _ _ _ _ _ Tryz.elem_slI .i64 ((0 : Nat) : Int) (by omega) (by omega), Tryz.el_slI, size_I]
    simp [Result.andThen, sliced]
  · rw [run_sliceAt_slice _ _ _ _ _ _ Tryz.elem_slI, run_slice_h _ _ _ _ _ Tryz.elem_slI .i64 (j : Int) (by omega) (by omega), Tryz.el_slI, size_I]
    have e0 : (⟨b, 0, none⟩ : Addr).add 0 = ⟨b, 0, none⟩ := by simp [Addr.add]
    simp [Result.andThen, sliced, e0]
set_option maxHeartbeats 1000000 in
theorem Tryz.elem_slN : Tryz.prog.underlying 50 = some (.slice (Tryz.prog.elem 50)) := by kernel_rfl
set_option maxHeartbeats 1000000 in
theorem Tryz.el_slN : Tryz.prog.elem 50 = 65 := by kernel_rfl
set_option maxHeartbeats 1000000 in
theorem size_N (W : World) : (sizeOf 65).run Tryz.prog W = .ok 3 W := by
  obtain ⟨i0, hi0, hz0, hz1, hz2⟩ := info_parts Tryz.info_Note
  simp [sizeOf, typeInfo, hi0, hz1]
set_option maxHeartbeats 1000000 in
theorem run_cutN {A : Option Addr} {n c j : Nat} (h : Own5 A n c) (hj : j ≤ n) (W : World) :
    (Instr.sliceAt 50 (.slice A n c) none (some (.int .i64 (j : Int))) none).run Tryz.prog W = .ok (.slice A j c) W := by
  obtain ⟨cp, ⟨rfl, rfl, rfl⟩ | ⟨b, rfl⟩⟩ := h
  · obtain rfl : j = 0 := by omega
    rw [run_sliceAt_slice _ _ _ _ _ _ Tryz.elem_slN, run_slice_h _ _ _ _ _ Tryz.elem_slN .i64 ((0 : Nat) : Int) (by omega) (by omega), Tryz.el_slN, size_N]
    simp [Result.andThen, sliced]
  · rw [run_sliceAt_slice _ _ _ _ _ _ Tryz.elem_slN, run_slice_h _ _ _ _ _ Tryz.elem_slN .i64 (j : Int) (by omega) (by omega), Tryz.el_slN, size_N]
    have e0 : (⟨b, 0, none⟩ : Addr).add 0 = ⟨b, 0, none⟩ := by simp [Addr.add]
    simp [Result.andThen, sliced, e0]
set_option maxHeartbeats 1000000 in
theorem sl_app9 {W : World} {lo hi n m : Nat} {A : Option Addr} {a b : List Int} (h : Sl W lo hi A n (fun k => .int .i64 (gi (a ++ b) k))) (hm : m ≤ n) (ha : m ≤ a.length) : Sl W lo hi A m (fun k => .int .i64 (gi a k)) := fun k hk => by
  obtain ⟨b', off, e, h1, h2, hc⟩ := h k (by omega)
  refine ⟨b', off, e, h1, h2, hc.trans ?_⟩
  show some (Value.int .i64 (gi (a ++ b) k)) = some (Value.int .i64 (gi a k))
  have e2 : gi (a ++ b) k = gi a k := by unfold gi; simp [List.getD_eq_getElem?_getD, List.getElem?_append_left (show k < a.length by omega)]
  rw [e2]

set_option maxHeartbeats 16000000 in
theorem walkWindows (A : Option Addr) (k c : Nat) (b : Nat → Int) (w : World) (h : Sl w 0 w.heap.size A k (fun j => .int .u8 (b j))) (hb : ∀ j, 0 ≤ b j ∧ b j ≤ 255) (hk : k ≤ 1048576) :
    Calls Tryz.prog 8 #[.slice A k c] w fun e w' => e = .returned (.bool true) ∧ Below w.heap.size w w' := by
  have H := Lib.hid h
  have HBY := Lib.hid hb
  clear h hb
  go_enter Tryz.func8, Tryz.ntmps8
  go_wp2_with fail
  refine (lwBig_any A k c w).mono ?_
  rintro e w' ⟨rfl, rfl⟩
  have hk2 : ¬ ((1048576 : Int) < (k : Int)) := by omega
  have DR := Lib.hid (DrawRunKernel_any 0 w.heap.size A k c b w hk HBY.out H.out)
  go_wp2_with fail
  refine DR.out.mono ?_
  rintro e w1 ⟨sl, B, n, c', xs, rfl, hsl, hn, ho, hb⟩
  have EV : Hid (Sl w1 0 w1.heap.size B (n * 7) (fun j => .int .i64 (gi xs j))) := by
    have := OR.sl0 ho
    exact this.wide (Nat.zero_le _) (Nat.le_refl _)
  have CAP : Hid (Own5 B n c') := OR.own5 ho
  have R1 := Lib.hid hb
  obtain ⟨rk, hrk⟩ : ∃ rk, rk = rk3 sl (gi xs) n := ⟨_, rfl⟩
  have SM := Lib.hid (rk3_small sl (gi xs) n)
  rw [← hrk] at SM
  have HRK := Lib.hid hrk
  have SP : Hid (∀ (W : World) (lo hi : Nat), Sl W lo hi B (n * 7) (fun j => .int .i64 (gi xs j)) → Calls Tryz.prog 30 #[.int .i64 sl, .slice B n c'] W (RAns rk W)) := fun W lo hi hl => by
    rw [HRK.out]; exact specRunKernel_any lo hi B n c' (gi xs) sl W (by omega) hl
  have IP : Hid (∀ (W : World) (lo hi : Nat), Sl W lo hi B (n * 7) (fun j => .int .i64 (gi xs j)) → Calls Tryz.prog 31 #[.int .i64 sl, .slice B n c'] W (RAns rk W)) := fun W lo hi hl => by
    rw [HRK.out]; exact implRunKernel_any lo hi B n c' (gi xs) sl W (by omega) hl
  obtain ⟨q, K, cs, ns⟩ := rk
  have SM : Hid (K.os.length ≤ 12 ∧ K.al.length ≤ 4 ∧ K.ac.length ≤ 16 ∧ cs.length ≤ 400 ∧ ns.length ≤ 3600) := SM.out
  clear ho hb hrk DR hk2
  go_wp2_with fail
  refine (IP.out w1 0 w1.heap.size EV.out).mono ?_
  rintro e w2 ⟨p1, rfl, ho, hb⟩
  have ho : RQ w2 w1.heap.size w2.heap.size p1 K cs ns := ho
  have O1 := Lib.hid ho
  have R2 := Lib.hid hb
  clear ho hb
  unfold Rq.cells
  dsimp only
  obtain ⟨w3, hw3⟩ : ∃ V, V = w2.alloc (.cells #[.int .i64 q, .slice p1.A1 p1.n1 p1.c1, .slice p1.A2 p1.n2 p1.c2, .slice p1.A3 p1.n3 p1.c3, .int .i64 K.tick, .int .i64 K.run, .slice p1.A4 p1.n4 p1.c4, .slice p1.A5 p1.n5 p1.c5] 52) := ⟨_, rfl⟩
  obtain ⟨b1, hb1⟩ : ∃ b, b = w2.heap.size := ⟨_, rfl⟩
  have Kw3 : Hid (w3.heap[b1]? = some (.cells #[.int .i64 q, .slice p1.A1 p1.n1 p1.c1, .slice p1.A2 p1.n2 p1.c2, .slice p1.A3 p1.n3 p1.c3, .int .i64 K.tick, .int .i64 K.run, .slice p1.A4 p1.n4 p1.c4, .slice p1.A5 p1.n5 p1.c5] 52 (0, 0))) := by show _ = _; rw [hw3, hb1]; exact heap_alloc_new w2 _
  have Nw3 : Hid (Below w2.heap.size w2 w3) := by rw [hw3]; exact below_new w2 _
  have Zw3 : Hid (w3.heap.size = b1 + 1 ∧ b1 = w2.heap.size) := by show _ ∧ _; rw [hw3, hb1]; simp
  have HWw3 := Lib.hid hw3; have HBw3 := Lib.hid hb1
  clear hw3 hb1
  have EV3 : Hid (Sl w3 0 w1.heap.size B (n * 7) (fun j => .int .i64 (gi xs j))) := EV.out.below (R2.out.trans (Nw3.out.mono R2.out.size)) (Nat.le_refl _)
  go_upto_region 5 with (fail)
  rw [← HWw3.out, ← HBw3.out]
  clear HWw3 HBw3
  go_wp2_with fail
  refine (SP.out w3 0 w1.heap.size EV3.out).mono ?_
  rintro e w4 ⟨p0, rfl, ho, hb⟩
  have ho : RQ w4 w3.heap.size w4.heap.size p0 K cs ns := ho
  have O0 := Lib.hid ho
  have R4 := Lib.hid hb
  clear ho hb EV3 SP
  unfold Rq.cells
  dsimp only
  obtain ⟨w5, hw5⟩ : ∃ V, V = w4.alloc (.cells #[.int .i64 q, .slice p0.A1 p0.n1 p0.c1, .slice p0.A2 p0.n2 p0.c2, .slice p0.A3 p0.n3 p0.c3, .int .i64 K.tick, .int .i64 K.run, .slice p0.A4 p0.n4 p0.c4, .slice p0.A5 p0.n5 p0.c5] 52) := ⟨_, rfl⟩
  obtain ⟨b0, hb0⟩ : ∃ b, b = w4.heap.size := ⟨_, rfl⟩
  have Kw5 : Hid (w5.heap[b0]? = some (.cells #[.int .i64 q, .slice p0.A1 p0.n1 p0.c1, .slice p0.A2 p0.n2 p0.c2, .slice p0.A3 p0.n3 p0.c3, .int .i64 K.tick, .int .i64 K.run, .slice p0.A4 p0.n4 p0.c4, .slice p0.A5 p0.n5 p0.c5] 52 (0, 0))) := by show _ = _; rw [hw5, hb0]; exact heap_alloc_new w4 _
  have Nw5 : Hid (Below w4.heap.size w4 w5) := by rw [hw5]; exact below_new w4 _
  have Zw5 : Hid (w5.heap.size = b0 + 1 ∧ b0 = w4.heap.size) := by show _ ∧ _; rw [hw5, hb0]; simp
  have HWw5 := Lib.hid hw5; have HBw5 := Lib.hid hb0
  clear hw5 hb0
  have F : Hid (∀ W, Below w5.heap.size w5 W → (W.cell? ⟨b1, 0, none⟩ = some (.int .i64 q) ∧ W.cell? ⟨b1, 1, none⟩ = some (.slice p1.A1 p1.n1 p1.c1) ∧ W.cell? ⟨b1, 2, none⟩ = some (.slice p1.A2 p1.n2 p1.c2) ∧ W.cell? ⟨b1, 3, none⟩ = some (.slice p1.A3 p1.n3 p1.c3) ∧ W.cell? ⟨b1, 4, none⟩ = some (.int .i64 K.tick) ∧ W.cell? ⟨b1, 5, none⟩ = some (.int .i64 K.run) ∧ W.cell? ⟨b1, 6, none⟩ = some (.slice p1.A4 p1.n4 p1.c4) ∧ W.cell? ⟨b1, 7, none⟩ = some (.slice p1.A5 p1.n5 p1.c5)) ∧ (W.cell? ⟨b0, 0, none⟩ = some (.int .i64 q) ∧ W.cell? ⟨b0, 1, none⟩ = some (.slice p0.A1 p0.n1 p0.c1) ∧ W.cell? ⟨b0, 2, none⟩ = some (.slice p0.A2 p0.n2 p0.c2) ∧ W.cell? ⟨b0, 3, none⟩ = some (.slice p0.A3 p0.n3 p0.c3) ∧ W.cell? ⟨b0, 4, none⟩ = some (.int .i64 K.tick) ∧ W.cell? ⟨b0, 5, none⟩ = some (.int .i64 K.run) ∧ W.cell? ⟨b0, 6, none⟩ = some (.slice p0.A4 p1.n4 p0.c4) ∧ W.cell? ⟨b0, 7, none⟩ = some (.slice p0.A5 p1.n5 p0.c5)) ∧ RQ W w1.heap.size w2.heap.size p1 K cs ns ∧ RQ W w3.heap.size w4.heap.size p0 K cs ns ∧ Sl W p0.g4 (p0.g4 + 1) p0.A4 p1.n4 (fun k => .int .i64 (gi cs k)) ∧ Sl W p0.g5 (p0.g5 + 1) p0.A5 (p1.n5 * 3) (fun k => .int .i64 (gi ns k)) ∧ Sl W 0 w1.heap.size B (n * 7) (fun j => .int .i64 (gi xs j)) ∧ Below w.heap.size w W) := fun W hW => by
    have z3 := Zw3.out; have z5 := Zw5.out
    have s1 := R1.out.size; have s2 := R2.out.size; have s4 := R4.out.size
    have b35 : Below w3.heap.size w3 W := R4.out.trans ((Nw5.out.mono s4).trans (hW.mono (by omega)))
    have b2 : Below w2.heap.size w2 W := Nw3.out.trans (b35.mono (by omega))
    have j1 := (b35.block b1 (by omega)).trans Kw3.out
    have j0 := (hW.block b0 (by omega)).trans Kw5.out
    have o0 := O0.out.below (Nw5.out.trans (hW.mono (by omega))) (Nat.le_refl _)
    have nn := (O1.out.below b2 (Nat.le_refl _)).same o0
    have x4 := o0.codes
    have x5 := o0.notes
    have j0' : (W.cell? ⟨b0, 0, none⟩ = some (.int .i64 q) ∧ W.cell? ⟨b0, 1, none⟩ = some (.slice p0.A1 p0.n1 p0.c1) ∧ W.cell? ⟨b0, 2, none⟩ = some (.slice p0.A2 p0.n2 p0.c2) ∧ W.cell? ⟨b0, 3, none⟩ = some (.slice p0.A3 p0.n3 p0.c3) ∧ W.cell? ⟨b0, 4, none⟩ = some (.int .i64 K.tick) ∧ W.cell? ⟨b0, 5, none⟩ = some (.int .i64 K.run) ∧ W.cell? ⟨b0, 6, none⟩ = some (.slice p0.A4 p0.n4 p0.c4) ∧ W.cell? ⟨b0, 7, none⟩ = some (.slice p0.A5 p0.n5 p0.c5)) := ⟨cell_of_row W _ 0 _ _ _ j0, cell_of_row W _ 1 _ _ _ j0, cell_of_row W _ 2 _ _ _ j0, cell_of_row W _ 3 _ _ _ j0, cell_of_row W _ 4 _ _ _ j0, cell_of_row W _ 5 _ _ _ j0, cell_of_row W _ 6 _ _ _ j0, cell_of_row W _ 7 _ _ _ j0⟩
    rw [nn.1] at x4
    rw [nn.2] at x5
    rw [nn.1, nn.2] at j0'
    exact ⟨⟨cell_of_row W _ 0 _ _ _ j1, cell_of_row W _ 1 _ _ _ j1, cell_of_row W _ 2 _ _ _ j1, cell_of_row W _ 3 _ _ _ j1, cell_of_row W _ 4 _ _ _ j1, cell_of_row W _ 5 _ _ _ j1, cell_of_row W _ 6 _ _ _ j1, cell_of_row W _ 7 _ _ _ j1⟩, j0', O1.out.below b2 (Nat.le_refl _), o0, x4, x5, EV.out.below (R2.out.trans (b2.mono s2)) (Nat.le_refl _), R1.out.trans ((R2.out.trans (b2.mono s2)).mono s1)⟩
  clear O1 O0 Kw3 Kw5 Nw3 Nw5 R1 R2 R4 Zw3 Zw5 EV
  go_upto_region 6 with (fail)
  rw [← HWw5.out, ← HBw5.out]
  clear HWw5 HBw5
  have hq : (q != q) = false := by simp
  obtain ⟨⟨z0, z1, z2, z3, z4, z5, z6, z7⟩, ⟨s0, s1, s2, s3, s4, s5, s6, s7⟩, o1, o0, x4, x5, _, _⟩ := F.out w5 (Below.refl _ _)
  have NC := Lib.hid (lwNums_same _ _ _ _ p1.A4 p0.A4 cs p1.n4 p1.c4 p0.c4 w5 (by have := o1.l4; have := SM.out; omega) o1.l4 o1.codes x4)
  clear o1 o0 x4 x5
  go_wp2_with fail
  refine NC.out.mono ?_
  rintro e w6 ⟨rfl, hb⟩
  have B6 := Lib.hid hb
  clear hb NC z0 z1 z2 z3 z4 z5 z6 z7 s0 s1 s2 s3 s4 s5 s6 s7
  obtain ⟨⟨z0, z1, z2, z3, z4, z5, z6, z7⟩, ⟨s0, s1, s2, s3, s4, s5, s6, s7⟩, o1, o0, x4, x5, _, _⟩ := F.out w6 B6.out
  have NC := Lib.hid (lwNotes_same _ _ _ _ p1.A5 p0.A5 p1.n5 p1.c5 p0.c5 _ w6 (by have := o1.l5; have := SM.out; omega) o1.notes x5)
  clear o1 o0 x4 x5
  go_wp2_with fail
  refine NC.out.mono ?_
  rintro e w7 ⟨rfl, hb⟩
  have B7 := Lib.hid (B6.out.trans (hb.mono B6.out.size))
  clear hb NC z0 z1 z2 z3 z4 z5 z6 z7 s0 s1 s2 s3 s4 s5 s6 s7 B6
  obtain ⟨⟨z0, z1, z2, z3, z4, z5, z6, z7⟩, ⟨s0, s1, s2, s3, s4, s5, s6, s7⟩, o1, o0, x4, x5, _, _⟩ := F.out w7 B7.out
  have NC := Lib.hid (implSK_same _ _ _ _ p1 p0 K cs ns w7 o1 o0 (by have := o1.l1; have := o1.l2; have := o1.l3; have := SM.out; omega))
  clear o1 o0 x4 x5
  go_wp2_with fail
  refine NC.out.mono ?_
  rintro e w8 ⟨rfl, hb⟩
  have B8 := Lib.hid (B7.out.trans (hb.mono B7.out.size))
  clear hb NC z0 z1 z2 z3 z4 z5 z6 z7 s0 s1 s2 s3 s4 s5 s6 s7 B7
  obtain ⟨⟨z0, z1, z2, z3, z4, z5, z6, z7⟩, ⟨s0, s1, s2, s3, s4, s5, s6, s7⟩, o1, _, _, _, _, bw⟩ := F.out w8 B8.out
  have L4 := Lib.hid o1.l4
  have BW8 := Lib.hid bw
  clear o1 bw
  by_cases h0 : q = 0
  case neg =>
    have y : (q != 0) = true := by simp [h0]
    have e4 : p1.n4 = 0 := by
      by_cases ha : ask3 sl n = 0
      · have e := HRK.out.trans (rk3_good (x := gi xs) ha).1
        exact absurd (congrArg Prod.fst e) h0
      · have e := HRK.out.trans (rk3_bad (x := gi xs) ha)
        have e2 : cs = [] := congrArg (fun r => r.2.2.1) e
        have l := L4.out
        rw [e2] at l
        exact l.symm
    rw [e4] at z6
    clear e4
    go_wp2
    go_ret
    exact ⟨rfl, BW8.out⟩
  subst h0
  have ha : ask3 sl n = 0 := Classical.byContradiction fun hh => hh (congrArg Prod.fst (HRK.out.trans (rk3_bad (x := gi xs) hh))).symm
  have GD := Lib.hid (rk3_good (x := gi xs) ha)
  have ER := Lib.hid (HRK.out.trans GD.out.1)
  have SC : Hid (scn3 (some 0) ns p1.n5 = some (9 * ((K.tick + 8) / 9)) ∧ (0 ≤ K.tick ∧ K.tick ≤ 400)) := by
    have e1 : K = (run3 (new3 sl) (gi xs) n).1 := congrArg (fun r => r.2.1) ER.out
    have e2 : ns = (run3 (new3 sl) (gi xs) n).2.2 := congrArg (fun r => r.2.2.2) ER.out
    obtain ⟨a1, a2⟩ := run_scan (x := gi xs) (sk_new GD.out.2.1).1 rfl n GD.out.2.2
    obtain ⟨b1', b2', _, _⟩ := run3_all (x := gi xs) (sk_new GD.out.2.1).1 rfl n GD.out.2.2
    rw [← e1, ← e2] at a2
    rw [← e1] at b1' b2'
    have l5 := (F.out w5 (Below.refl _ _)).2.2.1.l5
    unfold scl3 at a2
    rw [show ns.length / 3 = p1.n5 by omega] at a2
    exact ⟨a2, b1'.tick.1, by have := GD.out.2.2; omega⟩
  have N5 : Hid (p1.n5 ≤ 1200) := by have l5 := (F.out w5 (Below.refl _ _)).2.2.1.l5; have := SM.out; show _ ≤ _; omega
  clear ha
  go_wp2_with fail
  go_loopw [7, 8] (fun nx i wr => ∃ (j : Nat) (v : Int), j ≤ p1.n5 ∧ i = .int .i64 (j : Int) ∧ nx = .int .i64 v ∧ scn3 (some 0) ns j = some v ∧ (0 ≤ v ∧ v ≤ 9 * j) ∧ Below w5.heap.size w5 wr) (fun _ i _ => p1.n5 - (intOf i).toNat)
  case atStart => exact ⟨0, 0, Nat.zero_le _, rfl, rfl, rfl, by omega, B8.out⟩
  case round =>
    clear z0 z1 z2 z3 z4 z5 z6 z7 s0 s1 s2 s3 s4 s5 s6 s7
    obtain ⟨j, v, hj, rfl, rfl, hs, hv, hb⟩ := hrel
    have BR := Lib.hid hb
    obtain ⟨⟨z0, z1, z2, z3, z4, z5, z6, z7⟩, _, o1, _, _, _, _, bw⟩ := F.out wr BR.out
    have O1 := Lib.hid o1
    have BWR := Lib.hid bw
    have n12 := N5.out
    clear o1 bw hb
    by_cases hlt : j < p1.n5
    · obtain ⟨g5, off, hA5, h1, h2, hc⟩ := O1.out.notes.at_ (show j * 3 < p1.n5 * 3 by omega)
      rw [hA5] at z7
      have c0 : wr.cell? ⟨g5, off + j * 3, none⟩ = some (.int .i64 (gi ns (j * 3))) := hc (j * 3) (by omega)
      have c1 : wr.cell? ⟨g5, off + j * 3 + 1, none⟩ = some (.int .i64 (gi ns (j * 3 + 1))) := hc (j * 3 + 1) (by omega)
      have c2 : wr.cell? ⟨g5, off + j * 3 + 2, none⟩ = some (.int .i64 (gi ns (j * 3 + 2))) := hc (j * 3 + 2) (by omega)
      have NX : scn3 (some 0) ns (j + 1) = nxt3 (some v) (gi ns (j * 3)) (gi ns (j * 3 + 2)) := by
        show nxt3 (scn3 (some 0) ns j) _ _ = _
        rw [hs]
      have SS := scn3_some (some 0) ns p1.n5 (j + 1) (by omega) (by rw [SC.out.1]; rfl)
      generalize gi ns (j * 3) = t at *
      generalize gi ns (j * 3 + 1) = e5 at *
      generalize gi ns (j * 3 + 2) = kd at *
      rw [NX] at SS
      have hne : (kd = 1 ∨ kd = 2 ∨ kd = 3) → t = v := fun hh => Classical.byContradiction fun hn => by
        unfold nxt3 at SS
        simp [hh, hn] at SS
      have NB := Lib.hid NX
      clear NX SS hs hc
      obtain ⟨w9, hw9⟩ : ∃ V, V = wr.alloc (.cells #[.int .i64 t, .int .i64 e5, .int .i64 kd] 65) := ⟨_, rfl⟩
      have K9 : w9.heap[wr.heap.size]? = some (.cells #[.int .i64 t, .int .i64 e5, .int .i64 kd] 65 (0, 0)) := by rw [hw9]; exact heap_alloc_new wr _
      have B9 : Hid (Below w5.heap.size w5 w9) := by rw [hw9]; exact BR.out.trans ((below_new wr _).mono BR.out.size)
      have u0 := cell_of_row w9 _ 0 _ _ _ K9; have u2 := cell_of_row w9 _ 2 _ _ _ K9
      simp at u0 u2
      have HW9 := Lib.hid hw9
      have j0 : (0 : Int) ≤ (j : Int) := by omega
      have j1 : (j : Int) < (p1.n5 : Int) := by omega
      have j2 : (p1.n5 : Int) ≤ 1200 := by omega
      have v1 : v ≤ 10800 := by omega
      have v0 : 0 ≤ v := hv.1
      clear hw9 K9 hA5
      go_upto_region 15 with (fail)
      rw [← HW9.out]
      clear HW9 c0 c1 c2
      by_cases k1 : kd = 1
      · subst k1
        obtain rfl := hne (by omega)
        have EN := Lib.hid (NB.out.trans (nxt3_begin _ _ (by omega)))
        clear NB
        go_wp2
        go_roundw
        case rel => exact ⟨j + 1, t + 9, by omega, by rw [show ((j + 1 : Nat) : Int) = (j : Int) + 1 by omega], rfl, EN.out, by omega, B9.out⟩
        case measure => simp [intOf]; omega
      by_cases k2 : kd = 2
      · subst k2
        obtain rfl := hne (by omega)
        have EN := Lib.hid (NB.out.trans (nxt3_begin _ _ (by omega)))
        clear NB
        go_wp2
        go_roundw
        case rel => exact ⟨j + 1, t + 9, by omega, by rw [show ((j + 1 : Nat) : Int) = (j : Int) + 1 by omega], rfl, EN.out, by omega, B9.out⟩
        case measure => simp [intOf]; omega
      by_cases k3 : kd = 3
      · subst k3
        obtain rfl := hne (by omega)
        have EN := Lib.hid (NB.out.trans (nxt3_begin _ _ (by omega)))
        clear NB
        go_wp2
        go_roundw
        case rel => exact ⟨j + 1, t + 9, by omega, by rw [show ((j + 1 : Nat) : Int) = (j : Int) + 1 by omega], rfl, EN.out, by omega, B9.out⟩
        case measure => simp [intOf]; omega
      have y1 : (kd == 1) = false := by simp [k1]
      have y2 : (kd == 2) = false := by simp [k2]
      have y3 : (kd == 3) = false := by simp [k3]
      have EN := Lib.hid (NB.out.trans (nxt3_other _ _ _ (by omega)))
      clear hne NB
      go_wp2
      go_roundw
      case rel => exact ⟨j + 1, v, by omega, by rw [show ((j + 1 : Nat) : Int) = (j : Int) + 1 by omega], rfl, EN.out, by omega, B9.out⟩
      case measure => simp [intOf]; omega
    · have hjn : ¬ ((j : Int) < (p1.n5 : Int)) := by omega
      have hjm : j = p1.n5 := by omega
      have hv2 : v = 9 * ((K.tick + 8) / 9) := by
        rw [hjm] at hs
        have := hs.symm.trans SC.out.1
        injection this
      have AT := Lib.hid (lwAt_any 0 w.heap.size A k c b 2 (n + 1) wr hk (by omega) (by omega) (by omega) HBY.out (H.out.below BWR.out (Nat.le_refl _)))
      have AT : Hid (Calls Tryz.prog 40 #[.slice A k c, .int .i64 2, .int .i64 ((n : Int) + 1)] wr (AtD (n + 1) wr)) := AT.out
      have HV2 := Lib.hid hv2
      clear hs hv2 hjm
      have n401 : (n : Int) ≤ 401 := by omega
      go_wp2_with fail
      refine AT.out.mono ?_
      rintro e wa ⟨cut, rfl, hcut, hb⟩
      have BA := Lib.hid (BR.out.trans (hb.mono BR.out.size))
      have RC : Hid (∀ W, (Instr.sliceAt 27 (.slice B n c') none (some (.int .i64 (cut : Int))) none).run Tryz.prog W = .ok (.slice B cut c') W) := run_cutE CAP.out (by omega)
      have rc := RC.out
      have EC : Hid (∃ K2 cs2 ns2 csx nsx, rk3 sl (gi xs) cut = (0, K2, cs2, ns2) ∧ cs = cs2 ++ csx ∧ ns = ns2 ++ nsx ∧ cs2.length = cut) := by
        have hc0 : ask3 sl cut = 0 := by unfold ask3; rw [if_neg (by simp [GD.out.2.1]), if_neg (by have := GD.out.2.2; omega)]
        obtain ⟨g1, _, g3⟩ := rk3_good (x := gi xs) hc0
        obtain ⟨d, hd⟩ : ∃ d, n = cut + d := ⟨n - cut, by omega⟩
        obtain ⟨csx, nsx, e1, e2⟩ := run3_cut (new3 sl) (gi xs) cut d
        have ek : cs = (run3 (new3 sl) (gi xs) n).2.1 := congrArg (fun r => r.2.2.1) ER.out
        have en : ns = (run3 (new3 sl) (gi xs) n).2.2 := congrArg (fun r => r.2.2.2) ER.out
        obtain ⟨_, _, l1, _⟩ := run3_all (x := gi xs) (sk_new GD.out.2.1).1 rfl cut (by omega)
        refine ⟨_, _, _, csx, nsx, g1, ?_, ?_, l1⟩
        · rw [ek, hd]; exact e1
        · rw [en, hd]; exact e2
      have IP3 := Lib.hid (implRunKernel_any 0 w1.heap.size B cut c' (gi xs) sl wa (by omega) ((F.out wa BA.out).2.2.2.2.2.2.1.take (by omega)))
      obtain ⟨K2, cs2, ns2, csx, nsx, ec, e1, e2, e3⟩ := EC.out
      rw [ec] at IP3
      have HCS := Lib.hid e1; have HNS := Lib.hid e2; have HL2 := Lib.hid e3
      clear hb AT RC EC ec e1 e2 e3 z0 z1 z2 z3 z4 z5 z6 z7
      go_wp2_with fail
      refine IP3.out.mono ?_
      rintro e wb ⟨p2, rfl, ho, hb⟩
      have ho : RQ wb wa.heap.size wb.heap.size p2 K2 cs2 ns2 := ho
      have O2 := Lib.hid ho
      have BB := Lib.hid (BA.out.trans (hb.mono BA.out.size))
      clear ho hb IP3
      unfold Rq.cells
      dsimp only
      obtain ⟨wc, hwc⟩ : ∃ V, V = wb.alloc (.cells #[.int .i64 0, .slice p2.A1 p2.n1 p2.c1, .slice p2.A2 p2.n2 p2.c2, .slice p2.A3 p2.n3 p2.c3, .int .i64 K2.tick, .int .i64 K2.run, .slice p2.A4 p2.n4 p2.c4, .slice p2.A5 p2.n5 p2.c5] 52) := ⟨_, rfl⟩
      obtain ⟨b2, hb2⟩ : ∃ b, b = wb.heap.size := ⟨_, rfl⟩
      have KC : Hid (wc.heap[b2]? = some (.cells #[.int .i64 0, .slice p2.A1 p2.n1 p2.c1, .slice p2.A2 p2.n2 p2.c2, .slice p2.A3 p2.n3 p2.c3, .int .i64 K2.tick, .int .i64 K2.run, .slice p2.A4 p2.n4 p2.c4, .slice p2.A5 p2.n5 p2.c5] 52 (0, 0))) := by show _ = _; rw [hwc, hb2]; exact heap_alloc_new wb _
      have NC : Hid (Below wb.heap.size wb wc) := by rw [hwc]; exact below_new wb _
      have BC := Lib.hid (BB.out.trans (NC.out.mono BB.out.size))
      have HWC := Lib.hid hwc; have HB2 := Lib.hid hb2
      clear hwc hb2
      go_upto_region 22 with (fail)
      rw [← HWC.out, ← HB2.out]
      clear HWC HB2
      have P2N : Hid (p2.n4 = cut ∧ p2.n5 ≤ p1.n5 ∧ p2.n5 * 3 = ns2.length ∧ cut ≤ p1.n4) := by
        have o1 := (F.out wc BC.out).2.2.1
        have a4 := o1.l4; have a5 := o1.l5
        have c4 := O2.out.l4; have c5 := O2.out.l5
        have l2 := HL2.out
        have ln : ns.length = ns2.length + nsx.length := by rw [HNS.out, List.length_append]
        have lc : cs.length = cs2.length + csx.length := by rw [HCS.out, List.length_append]
        show _ ∧ _ ∧ _ ∧ _
        omega
      have KH : Hid (∀ W, Below wc.heap.size wc W → (W.cell? ⟨b1, 4, none⟩ = some (.int .i64 K.tick) ∧ W.cell? ⟨b1, 6, none⟩ = some (.slice p1.A4 p1.n4 p1.c4) ∧ W.cell? ⟨b1, 7, none⟩ = some (.slice p1.A5 p1.n5 p1.c5) ∧ W.cell? ⟨b2, 0, none⟩ = some (.int .i64 0) ∧ W.cell? ⟨b2, 6, none⟩ = some (.slice p2.A4 cut p2.c4) ∧ W.cell? ⟨b2, 7, none⟩ = some (.slice p2.A5 p2.n5 p2.c5)) ∧ Below wc.heap.size wc W) := fun W hW => by
        have bw := BC.out.trans (hW.mono BC.out.size)
        obtain ⟨⟨z0, z1, z2, z3, z4, z5, z6, z7⟩, _⟩ := F.out W bw
        have j := (hW.block b2 (Array.getElem?_eq_some_iff.1 KC.out).1).trans KC.out
        have u0 := cell_of_row W _ 0 _ _ _ j; have u6 := cell_of_row W _ 6 _ _ _ j; have u7 := cell_of_row W _ 7 _ _ _ j
        simp at u0 u6 u7
        rw [P2N.out.1] at u6
        exact ⟨⟨z4, z6, z7, u0, u6, u7⟩, hW⟩
      have NUM : Hid (∀ W, Below wc.heap.size wc W → Calls Tryz.prog 37 #[.slice p2.A4 cut p2.c4, .slice p1.A4 cut p1.c4] W fun e w' => e = .returned (.bool true) ∧ Below wc.heap.size wc w') := fun W hW => by
        have bw := BC.out.trans (hW.mono BC.out.size)
        have o1 := (F.out W bw).2.2.1
        have o2 := (O2.out.below (NC.out) (Nat.le_refl _)).below hW (by have := NC.out.size; omega)
        have x1 := o1.codes
        have x2 := o2.codes
        rw [HCS.out] at x1
        rw [P2N.out.1] at x2
        have q1 := sl_app9 (m := cut) x1 P2N.out.2.2.2 (by have := HL2.out; omega)
        exact (lwNums_same _ _ _ _ p2.A4 p1.A4 cs2 cut p2.c4 p1.c4 W (by omega) HL2.out x2 q1).mono fun e w' hh => ⟨hh.1, hW.trans (hh.2.mono hW.size)⟩
      have NOT : Hid (∀ W, Below wc.heap.size wc W → Calls Tryz.prog 38 #[.slice p2.A5 p2.n5 p2.c5, .slice p1.A5 p2.n5 p1.c5] W fun e w' => e = .returned (.bool true) ∧ Below wc.heap.size wc w') := fun W hW => by
        have bw := BC.out.trans (hW.mono BC.out.size)
        have o1 := (F.out W bw).2.2.1
        have o2 := (O2.out.below (NC.out) (Nat.le_refl _)).below hW (by have := NC.out.size; omega)
        have x1 := o1.notes
        rw [HNS.out] at x1
        have q1 := sl_app9 (m := p2.n5 * 3) x1 (by have := P2N.out; omega) (by have := P2N.out; omega)
        exact (lwNotes_same _ _ _ _ p2.A5 p1.A5 p2.n5 p2.c5 p1.c5 _ W (by have := N5.out; have := P2N.out; omega) o2.notes q1).mono fun e w' hh => ⟨hh.1, hW.trans (hh.2.mono hW.size)⟩
      have o1k := (F.out wc BC.out).2.2.1
      have rc4 := run_cutI (j := cut) o1k.k4 P2N.out.2.2.2
      have rc5 := run_cutN (j := p2.n5) o1k.k5 P2N.out.2.1
      have FIN : Hid (∀ W, Below wc.heap.size wc W → Below w.heap.size w W) := fun W hW => (F.out W (BC.out.trans (hW.mono BC.out.size))).2.2.2.2.2.2.2
      have t0 : K.tick ≤ v := by have := HV2.out; have := SC.out; omega
      have t1 : v < K.tick + 9 := by have := HV2.out; have := SC.out; omega
      have t2 : 0 ≤ K.tick ∧ K.tick ≤ 400 := SC.out.2
      have t3 : p2.n5 ≤ p1.n5 := P2N.out.2.1
      have y1 : decide (v ≥ K.tick) = true := decide_eq_true t0
      have y2 : decide (v < K.tick + 9) = true := decide_eq_true t1
      have y3 : decide ((p2.n5 : Int) ≤ (p1.n5 : Int)) = true := decide_eq_true (by omega)
      have y4 : IntKind.i64.wrap (K.tick + 9) = K.tick + 9 := IntWalk.i64_in _ (by omega)
      clear o1k hv
      refine wp_region_held_drew (S := fun W => (W.cell? ⟨b1, 4, none⟩ = some (.int .i64 K.tick) ∧ W.cell? ⟨b1, 6, none⟩ = some (.slice p1.A4 p1.n4 p1.c4) ∧ W.cell? ⟨b1, 7, none⟩ = some (.slice p1.A5 p1.n5 p1.c5) ∧ W.cell? ⟨b2, 0, none⟩ = some (.int .i64 0) ∧ W.cell? ⟨b2, 6, none⟩ = some (.slice p2.A4 cut p2.c4) ∧ W.cell? ⟨b2, 7, none⟩ = some (.slice p2.A5 p2.n5 p2.c5)) ∧ Below wc.heap.size wc W) (by kernel_rfl) (KH.out _ (Below.drew (Below.refl _ _))) (fun hHeld => ?_)
      obtain ⟨v0, hv0⟩ : ∃ v0, v0 = wc.drew := ⟨_, rfl⟩
      have BL0 : Hid (Below wc.heap.size wc v0) := by rw [hv0]; exact Below.drew (Below.refl _ _)
      rw [← hv0] at hHeld ⊢
      clear hv0
      refine wpAnyH_take (i := 0) (oi := _) (v := ?_) rfl (by kernel_rfl) (by kernel_rfl) (by kernel_rfl) (fun _ _ _ h => h) (Or.inl ⟨by rfl, ?_⟩) hHeld ?_
      rotate_left
      · (intro w hSw; (try dsimp only at hSw); go_simp; try with_reducible rfl)
      try simp only [Act.put, List.getElem_toArray, List.getElem_cons_succ, List.getElem_cons_zero, List.setIfInBounds_toArray, List.set_cons_zero, List.set_cons_succ]
      refine wpAnyH_take (i := 1) (oi := _) (v := ?_) rfl (by kernel_rfl) (by kernel_rfl) (by kernel_rfl) (fun _ _ _ h => h) (Or.inl ⟨by rfl, ?_⟩) hHeld ?_
      rotate_left
      · (intro w hSw; (try dsimp only at hSw); go_simp; try with_reducible rfl)
      try simp only [Act.put, List.getElem_toArray, List.getElem_cons_succ, List.getElem_cons_zero, List.setIfInBounds_toArray, List.set_cons_zero, List.set_cons_succ]
      refine wpAnyH_take (i := 2) (oi := _) (v := ?_) rfl (by kernel_rfl) (by kernel_rfl) (by kernel_rfl) (fun _ _ _ h => h) (Or.inl ⟨by rfl, ?_⟩) hHeld ?_
      rotate_left
      · (intro w hSw; (try dsimp only at hSw); go_simp; try with_reducible rfl)
      try simp only [Act.put, List.getElem_toArray, List.getElem_cons_succ, List.getElem_cons_zero, List.setIfInBounds_toArray, List.set_cons_zero, List.set_cons_succ]
      refine wpAnyH_take (i := 3) (oi := _) (v := ?_) rfl (by kernel_rfl) (by kernel_rfl) (by kernel_rfl) (fun _ _ _ h => h) (Or.inl ⟨by rfl, ?_⟩) hHeld ?_
      rotate_left
      · (intro w hSw; (try dsimp only at hSw); go_simp; try with_reducible rfl)
      try simp only [Act.put, List.getElem_toArray, List.getElem_cons_succ, List.getElem_cons_zero, List.setIfInBounds_toArray, List.set_cons_zero, List.set_cons_succ]
      refine wpAnyH_take (i := 4) (oi := _) (v := ?_) rfl (by kernel_rfl) (by kernel_rfl) (by kernel_rfl) (fun _ _ _ h => h) (Or.inl ⟨by rfl, ?_⟩) hHeld ?_
      rotate_left
      · (intro w hSw; (try dsimp only at hSw); go_simp; try with_reducible rfl)
      try simp only [Act.put, List.getElem_toArray, List.getElem_cons_succ, List.getElem_cons_zero, List.setIfInBounds_toArray, List.set_cons_zero, List.set_cons_succ]
      refine wpAnyH_take (i := 5) (oi := _) (v := ?_) rfl (by kernel_rfl) (by kernel_rfl) (by kernel_rfl) (fun _ _ _ h => h) (Or.inl ⟨by rfl, ?_⟩) hHeld ?_
      rotate_left
      · (intro w hSw; (try dsimp only at hSw); go_simp; try with_reducible rfl)
      try simp only [Act.put, List.getElem_toArray, List.getElem_cons_succ, List.getElem_cons_zero, List.setIfInBounds_toArray, List.set_cons_zero, List.set_cons_succ]
      refine wpAnyH_take (i := 6) (oi := _) (v := ?_) rfl (by kernel_rfl) (by kernel_rfl) (by kernel_rfl) (fun _ _ _ h => h) (Or.inl ⟨by rfl, ?_⟩) hHeld ?_
      rotate_left
      · (intro w hSw; (try dsimp only at hSw); go_simp; try with_reducible rfl)
      try simp only [Act.put, List.getElem_toArray, List.getElem_cons_succ, List.getElem_cons_zero, List.setIfInBounds_toArray, List.set_cons_zero, List.set_cons_succ]
      refine wpAnyH_take (i := 7) (oi := _) (v := ?_) rfl (by kernel_rfl) (by kernel_rfl) (by kernel_rfl) (fun _ _ _ h => h) (Or.inl ⟨by rfl, ?_⟩) hHeld ?_
      rotate_left
      · (intro w hSw; (try dsimp only at hSw); go_simp; try with_reducible rfl)
      try simp only [Act.put, List.getElem_toArray, List.getElem_cons_succ, List.getElem_cons_zero, List.setIfInBounds_toArray, List.set_cons_zero, List.set_cons_succ]
      refine wpAnyH_take (i := 8) (oi := _) (v := ?_) rfl (by kernel_rfl) (by kernel_rfl) (by kernel_rfl) (fun _ _ _ h => h) (Or.inl ⟨by rfl, ?_⟩) hHeld ?_
      rotate_left
      · (intro w hSw; (try dsimp only at hSw); go_simp; try with_reducible rfl)
      try simp only [Act.put, List.getElem_toArray, List.getElem_cons_succ, List.getElem_cons_zero, List.setIfInBounds_toArray, List.set_cons_zero, List.set_cons_succ]
      refine wpAnyH_take (i := 9) (oi := _) (v := ?_) rfl (by kernel_rfl) (by kernel_rfl) (by kernel_rfl) (fun _ _ _ h => h) (Or.inl ⟨by rfl, ?_⟩) hHeld ?_
      rotate_left
      · (intro w hSw; (try dsimp only at hSw); go_simp; try with_reducible rfl)
      try simp only [Act.put, List.getElem_toArray, List.getElem_cons_succ, List.getElem_cons_zero, List.setIfInBounds_toArray, List.set_cons_zero, List.set_cons_succ]
      refine wpAnyH_take (i := 10) (oi := _) (v := ?_) rfl (by kernel_rfl) (by kernel_rfl) (by kernel_rfl) (fun _ _ _ h => h) (Or.inl ⟨by rfl, ?_⟩) hHeld ?_
      rotate_left
      · (intro w hSw; (try dsimp only at hSw); go_simp; try with_reducible rfl)
      try simp only [Act.put, List.getElem_toArray, List.getElem_cons_succ, List.getElem_cons_zero, List.setIfInBounds_toArray, List.set_cons_zero, List.set_cons_succ]
      refine wpAnyH_take (i := 11) (oi := _) (v := ?_) rfl (by kernel_rfl) (by kernel_rfl) (by kernel_rfl) (fun _ _ _ h => h) (Or.inl ⟨by rfl, ?_⟩) hHeld ?_
      rotate_left
      · (intro w hSw; (try dsimp only at hSw); go_simp; try with_reducible rfl)
      try simp only [Act.put, List.getElem_toArray, List.getElem_cons_succ, List.getElem_cons_zero, List.setIfInBounds_toArray, List.set_cons_zero, List.set_cons_succ]
      refine wpAnyH_take (i := 12) (oi := _) (v := ?_) rfl (by kernel_rfl) (by kernel_rfl) (by kernel_rfl) (fun _ _ _ h => h) (Or.inl ⟨by rfl, ?_⟩) hHeld ?_
      rotate_left
      · (intro w hSw; (try dsimp only at hSw); go_simp; try with_reducible rfl)
      try simp only [Act.put, List.getElem_toArray, List.getElem_cons_succ, List.getElem_cons_zero, List.setIfInBounds_toArray, List.set_cons_zero, List.set_cons_succ]
      refine wpAnyH_take (i := 13) (oi := _) (v := ?_) rfl (by kernel_rfl) (by kernel_rfl) (by kernel_rfl) (fun _ _ _ h => h) (Or.inl ⟨by rfl, ?_⟩) hHeld ?_
      rotate_left
      · (intro w hSw; (try dsimp only at hSw); go_simp; try with_reducible rfl)
      try simp only [Act.put, List.getElem_toArray, List.getElem_cons_succ, List.getElem_cons_zero, List.setIfInBounds_toArray, List.set_cons_zero, List.set_cons_succ]
      refine wpAnyH_take (i := 14) (oi := _) (v := ?_) rfl (by kernel_rfl) (by kernel_rfl) (by kernel_rfl) (fun _ _ _ h => h) (Or.inl ⟨by rfl, ?_⟩) hHeld ?_
      rotate_left
      · (intro w hSw; (try dsimp only at hSw); go_simp; try with_reducible rfl)
      try simp only [Act.put, List.getElem_toArray, List.getElem_cons_succ, List.getElem_cons_zero, List.setIfInBounds_toArray, List.set_cons_zero, List.set_cons_succ]
      refine wpAnyH_take (i := 15) (oi := _) (v := ?_) rfl (by kernel_rfl) (by kernel_rfl) (by kernel_rfl) (fun _ _ _ h => h) (Or.inl ⟨by rfl, ?_⟩) hHeld ?_
      rotate_left
      · (intro w hSw; (try dsimp only at hSw); go_simp; try with_reducible rfl)
      try simp only [Act.put, List.getElem_toArray, List.getElem_cons_succ, List.getElem_cons_zero, List.setIfInBounds_toArray, List.set_cons_zero, List.set_cons_succ]
      refine wpAnyH_take (i := 16) (oi := _) (v := ?_) rfl (by kernel_rfl) (by kernel_rfl) (by kernel_rfl) (fun _ _ _ h => h) (Or.inl ⟨by rfl, ?_⟩) hHeld ?_
      rotate_left
      · (intro w hSw; (try dsimp only at hSw); go_simp; try with_reducible rfl)
      try simp only [Act.put, List.getElem_toArray, List.getElem_cons_succ, List.getElem_cons_zero, List.setIfInBounds_toArray, List.set_cons_zero, List.set_cons_succ]
      refine wpAnyH_take (i := 17) (oi := _) (v := ?_) rfl (by kernel_rfl) (by kernel_rfl) (by kernel_rfl) (fun _ _ _ h => h) (Or.inl ⟨by rfl, ?_⟩) hHeld ?_
      rotate_left
      · (intro w hSw; (try dsimp only at hSw); go_simp; try with_reducible rfl)
      try simp only [Act.put, List.getElem_toArray, List.getElem_cons_succ, List.getElem_cons_zero, List.setIfInBounds_toArray, List.set_cons_zero, List.set_cons_succ]
      refine wpAnyH_take (i := 18) (oi := _) (v := ?_) rfl (by kernel_rfl) (by kernel_rfl) (by kernel_rfl) (fun _ _ _ h => h) (Or.inl ⟨by rfl, ?_⟩) hHeld ?_
      rotate_left
      · (intro w hSw; (try dsimp only at hSw); go_simp; try with_reducible rfl)
      try simp only [Act.put, List.getElem_toArray, List.getElem_cons_succ, List.getElem_cons_zero, List.setIfInBounds_toArray, List.set_cons_zero, List.set_cons_succ]
      refine wpAnyH_take (i := 19) (oi := _) (v := ?_) rfl (by kernel_rfl) (by kernel_rfl) (by kernel_rfl) (fun _ _ _ h => h) (Or.inl ⟨by rfl, ?_⟩) hHeld ?_
      rotate_left
      · (intro w hSw; (try dsimp only at hSw); go_simp; try with_reducible rfl)
      try simp only [Act.put, List.getElem_toArray, List.getElem_cons_succ, List.getElem_cons_zero, List.setIfInBounds_toArray, List.set_cons_zero, List.set_cons_succ]
      refine wpAnyH_take (i := 20) (oi := _) (v := ?_) rfl (by kernel_rfl) (by kernel_rfl) (by kernel_rfl) (fun _ _ _ h => h) (Or.inl ⟨by rfl, ?_⟩) hHeld ?_
      rotate_left
      · (intro w hSw; (try dsimp only at hSw); go_simp; try with_reducible rfl)
      try simp only [Act.put, List.getElem_toArray, List.getElem_cons_succ, List.getElem_cons_zero, List.setIfInBounds_toArray, List.set_cons_zero, List.set_cons_succ]
      refine wpAnyH_take (i := 21) (oi := _) (v := ?_) rfl (by kernel_rfl) (by kernel_rfl) (by kernel_rfl) (fun _ _ _ h => h) (Or.inl ⟨by rfl, ?_⟩) hHeld ?_
      rotate_left
      · (intro w hSw; (try dsimp only at hSw); go_simp; try with_reducible rfl)
      try simp only [Act.put, List.getElem_toArray, List.getElem_cons_succ, List.getElem_cons_zero, List.setIfInBounds_toArray, List.set_cons_zero, List.set_cons_succ]
      refine wpAnyH_take (i := 22) (oi := _) (v := ?_) rfl (by kernel_rfl) (by kernel_rfl) (by kernel_rfl) (fun _ _ _ h => h) (Or.inl ⟨by rfl, ?_⟩) hHeld ?_
      rotate_left
      · (intro w hSw; (try dsimp only at hSw); go_simp; try with_reducible rfl)
      try simp only [Act.put, List.getElem_toArray, List.getElem_cons_succ, List.getElem_cons_zero, List.setIfInBounds_toArray, List.set_cons_zero, List.set_cons_succ]
      refine wpAnyH_take (i := 23) (oi := _) (v := ?_) rfl (by kernel_rfl) (by kernel_rfl) (by kernel_rfl) (fun _ _ _ h => h) (Or.inl ⟨by rfl, ?_⟩) hHeld ?_
      rotate_left
      · (intro w hSw; (try dsimp only at hSw); go_simp; try with_reducible rfl)
      try simp only [Act.put, List.getElem_toArray, List.getElem_cons_succ, List.getElem_cons_zero, List.setIfInBounds_toArray, List.set_cons_zero, List.set_cons_succ]
      refine wpAnyH_take (i := 24) (oi := _) (v := ?_) rfl (by kernel_rfl) (by kernel_rfl) (by kernel_rfl) (fun _ _ _ h => h) (Or.inl ⟨by rfl, ?_⟩) hHeld ?_
      rotate_left
      · (intro w hSw; (try dsimp only at hSw); go_simp; try with_reducible rfl)
      try simp only [Act.put, List.getElem_toArray, List.getElem_cons_succ, List.getElem_cons_zero, List.setIfInBounds_toArray, List.set_cons_zero, List.set_cons_succ]
      refine wpAnyH_ready (rs := [25]) (by kernel_rfl) (by simp) ?_
      refine AllReadyH.cons (o := _) rfl (fun K0 hK0 => ?_) AllReadyH.nil
      go_simp
      refine (NUM.out _ (by go_split_ands; assumption)).mono ?_
      rintro e9 w9 ⟨rfl, hb9⟩
      go_wp2_with fail
      skip
      refine hK0.out _ _ (KH.out _ hb9) (fun hHeld => ?_)
      clear hK0 K0
      try simp only [Act.put, List.getElem_toArray, List.getElem_cons_succ, List.getElem_cons_zero, List.setIfInBounds_toArray, List.set_cons_zero, List.set_cons_succ]
      refine wpAnyH_take (i := 26) (oi := _) (v := ?_) rfl (by kernel_rfl) (by kernel_rfl) (by kernel_rfl) (fun _ _ _ h => h) (Or.inl ⟨by rfl, ?_⟩) hHeld ?_
      rotate_left
      · (intro w hSw; (try dsimp only at hSw); go_simp; try with_reducible rfl)
      try simp only [Act.put, List.getElem_toArray, List.getElem_cons_succ, List.getElem_cons_zero, List.setIfInBounds_toArray, List.set_cons_zero, List.set_cons_succ]
      refine wpAnyH_take (i := 27) (oi := _) (v := ?_) rfl (by kernel_rfl) (by kernel_rfl) (by kernel_rfl) (fun _ _ _ h => h) (Or.inl ⟨by rfl, ?_⟩) hHeld ?_
      rotate_left
      · (intro w hSw; (try dsimp only at hSw); go_simp; try with_reducible rfl)
      try simp only [Act.put, List.getElem_toArray, List.getElem_cons_succ, List.getElem_cons_zero, List.setIfInBounds_toArray, List.set_cons_zero, List.set_cons_succ]
      refine wpAnyH_take (i := 28) (oi := _) (v := ?_) rfl (by kernel_rfl) (by kernel_rfl) (by kernel_rfl) (fun _ _ _ h => h) (Or.inl ⟨by rfl, ?_⟩) hHeld ?_
      rotate_left
      · (intro w hSw; (try dsimp only at hSw); go_simp; try with_reducible rfl)
      try simp only [Act.put, List.getElem_toArray, List.getElem_cons_succ, List.getElem_cons_zero, List.setIfInBounds_toArray, List.set_cons_zero, List.set_cons_succ]
      refine wpAnyH_take (i := 29) (oi := _) (v := ?_) rfl (by kernel_rfl) (by kernel_rfl) (by kernel_rfl) (fun _ _ _ h => h) (Or.inl ⟨by rfl, ?_⟩) hHeld ?_
      rotate_left
      · (intro w hSw; (try dsimp only at hSw); go_simp; try with_reducible rfl)
      try simp only [Act.put, List.getElem_toArray, List.getElem_cons_succ, List.getElem_cons_zero, List.setIfInBounds_toArray, List.set_cons_zero, List.set_cons_succ]
      refine wpAnyH_take (i := 30) (oi := _) (v := ?_) rfl (by kernel_rfl) (by kernel_rfl) (by kernel_rfl) (fun _ _ _ h => h) (Or.inl ⟨by rfl, ?_⟩) hHeld ?_
      rotate_left
      · (intro w hSw; (try dsimp only at hSw); go_simp; try with_reducible rfl)
      try simp only [Act.put, List.getElem_toArray, List.getElem_cons_succ, List.getElem_cons_zero, List.setIfInBounds_toArray, List.set_cons_zero, List.set_cons_succ]
      refine wpAnyH_take (i := 31) (oi := _) (v := ?_) rfl (by kernel_rfl) (by kernel_rfl) (by kernel_rfl) (fun _ _ _ h => h) (Or.inl ⟨by rfl, ?_⟩) hHeld ?_
      rotate_left
      · (intro w hSw; (try dsimp only at hSw); go_simp; try with_reducible rfl)
      try simp only [Act.put, List.getElem_toArray, List.getElem_cons_succ, List.getElem_cons_zero, List.setIfInBounds_toArray, List.set_cons_zero, List.set_cons_succ]
      refine wpAnyH_take (i := 32) (oi := _) (v := ?_) rfl (by kernel_rfl) (by kernel_rfl) (by kernel_rfl) (fun _ _ _ h => h) (Or.inl ⟨by rfl, ?_⟩) hHeld ?_
      rotate_left
      · (intro w hSw; (try dsimp only at hSw); go_simp; try with_reducible rfl)
      try simp only [Act.put, List.getElem_toArray, List.getElem_cons_succ, List.getElem_cons_zero, List.setIfInBounds_toArray, List.set_cons_zero, List.set_cons_succ]
      refine wpAnyH_take (i := 33) (oi := _) (v := ?_) rfl (by kernel_rfl) (by kernel_rfl) (by kernel_rfl) (fun _ _ _ h => h) (Or.inl ⟨by rfl, ?_⟩) hHeld ?_
      rotate_left
      · (intro w hSw; (try dsimp only at hSw); go_simp; try with_reducible rfl)
      try simp only [Act.put, List.getElem_toArray, List.getElem_cons_succ, List.getElem_cons_zero, List.setIfInBounds_toArray, List.set_cons_zero, List.set_cons_succ]
      refine wpAnyH_take (i := 34) (oi := _) (v := ?_) rfl (by kernel_rfl) (by kernel_rfl) (by kernel_rfl) (fun _ _ _ h => h) (Or.inl ⟨by rfl, ?_⟩) hHeld ?_
      rotate_left
      · (intro w hSw; (try dsimp only at hSw); go_simp; try with_reducible rfl)
      try simp only [Act.put, List.getElem_toArray, List.getElem_cons_succ, List.getElem_cons_zero, List.setIfInBounds_toArray, List.set_cons_zero, List.set_cons_succ]
      refine wpAnyH_take (i := 35) (oi := _) (v := ?_) rfl (by kernel_rfl) (by kernel_rfl) (by kernel_rfl) (fun _ _ _ h => h) (Or.inl ⟨by rfl, ?_⟩) hHeld ?_
      rotate_left
      · (intro w hSw; (try dsimp only at hSw); go_simp; try with_reducible rfl)
      try simp only [Act.put, List.getElem_toArray, List.getElem_cons_succ, List.getElem_cons_zero, List.setIfInBounds_toArray, List.set_cons_zero, List.set_cons_succ]
      refine wpAnyH_take (i := 36) (oi := _) (v := ?_) rfl (by kernel_rfl) (by kernel_rfl) (by kernel_rfl) (fun _ _ _ h => h) (Or.inl ⟨by rfl, ?_⟩) hHeld ?_
      rotate_left
      · (intro w hSw; (try dsimp only at hSw); go_simp; try with_reducible rfl)
      try simp only [Act.put, List.getElem_toArray, List.getElem_cons_succ, List.getElem_cons_zero, List.setIfInBounds_toArray, List.set_cons_zero, List.set_cons_succ]
      refine wpAnyH_take (i := 37) (oi := _) (v := ?_) rfl (by kernel_rfl) (by kernel_rfl) (by kernel_rfl) (fun _ _ _ h => h) (Or.inl ⟨by rfl, ?_⟩) hHeld ?_
      rotate_left
      · (intro w hSw; (try dsimp only at hSw); go_simp; try with_reducible rfl)
      try simp only [Act.put, List.getElem_toArray, List.getElem_cons_succ, List.getElem_cons_zero, List.setIfInBounds_toArray, List.set_cons_zero, List.set_cons_succ]
      refine wpAnyH_take (i := 38) (oi := _) (v := ?_) rfl (by kernel_rfl) (by kernel_rfl) (by kernel_rfl) (fun _ _ _ h => h) (Or.inl ⟨by rfl, ?_⟩) hHeld ?_
      rotate_left
      · (intro w hSw; (try dsimp only at hSw); go_simp; try with_reducible rfl)
      try simp only [Act.put, List.getElem_toArray, List.getElem_cons_succ, List.getElem_cons_zero, List.setIfInBounds_toArray, List.set_cons_zero, List.set_cons_succ]
      refine wpAnyH_take (i := 39) (oi := _) (v := ?_) rfl (by kernel_rfl) (by kernel_rfl) (by kernel_rfl) (fun _ _ _ h => h) (Or.inl ⟨by rfl, ?_⟩) hHeld ?_
      rotate_left
      · (intro w hSw; (try dsimp only at hSw); go_simp; try with_reducible rfl)
      try simp only [Act.put, List.getElem_toArray, List.getElem_cons_succ, List.getElem_cons_zero, List.setIfInBounds_toArray, List.set_cons_zero, List.set_cons_succ]
      refine wpAnyH_take (i := 40) (oi := _) (v := ?_) rfl (by kernel_rfl) (by kernel_rfl) (by kernel_rfl) (fun _ _ _ h => h) (Or.inl ⟨by rfl, ?_⟩) hHeld ?_
      rotate_left
      · (intro w hSw; (try dsimp only at hSw); go_simp; try with_reducible rfl)
      try simp only [Act.put, List.getElem_toArray, List.getElem_cons_succ, List.getElem_cons_zero, List.setIfInBounds_toArray, List.set_cons_zero, List.set_cons_succ]
      refine wpAnyH_take (i := 41) (oi := _) (v := ?_) rfl (by kernel_rfl) (by kernel_rfl) (by kernel_rfl) (fun _ _ _ h => h) (Or.inl ⟨by rfl, ?_⟩) hHeld ?_
      rotate_left
      · (intro w hSw; (try dsimp only at hSw); go_simp; try with_reducible rfl)
      try simp only [Act.put, List.getElem_toArray, List.getElem_cons_succ, List.getElem_cons_zero, List.setIfInBounds_toArray, List.set_cons_zero, List.set_cons_succ]
      refine wpAnyH_take (i := 42) (oi := _) (v := ?_) rfl (by kernel_rfl) (by kernel_rfl) (by kernel_rfl) (fun _ _ _ h => h) (Or.inl ⟨by rfl, ?_⟩) hHeld ?_
      rotate_left
      · (intro w hSw; (try dsimp only at hSw); go_simp; try with_reducible rfl)
      try simp only [Act.put, List.getElem_toArray, List.getElem_cons_succ, List.getElem_cons_zero, List.setIfInBounds_toArray, List.set_cons_zero, List.set_cons_succ]
      refine wpAnyH_take (i := 43) (oi := _) (v := ?_) rfl (by kernel_rfl) (by kernel_rfl) (by kernel_rfl) (fun _ _ _ h => h) (Or.inl ⟨by rfl, ?_⟩) hHeld ?_
      rotate_left
      · (intro w hSw; (try dsimp only at hSw); go_simp; try with_reducible rfl)
      try simp only [Act.put, List.getElem_toArray, List.getElem_cons_succ, List.getElem_cons_zero, List.setIfInBounds_toArray, List.set_cons_zero, List.set_cons_succ]
      refine wpAnyH_take (i := 44) (oi := _) (v := ?_) rfl (by kernel_rfl) (by kernel_rfl) (by kernel_rfl) (fun _ _ _ h => h) (Or.inl ⟨by rfl, ?_⟩) hHeld ?_
      rotate_left
      · (intro w hSw; (try dsimp only at hSw); go_simp; try with_reducible rfl)
      try simp only [Act.put, List.getElem_toArray, List.getElem_cons_succ, List.getElem_cons_zero, List.setIfInBounds_toArray, List.set_cons_zero, List.set_cons_succ]
      refine wpAnyH_ready (rs := [45]) (by kernel_rfl) (by simp) ?_
      refine AllReadyH.cons (o := _) rfl (fun K0 hK0 => ?_) AllReadyH.nil
      go_simp
      refine (NOT.out _ (by go_split_ands; assumption)).mono ?_
      rintro e9 w9 ⟨rfl, hb9⟩
      go_wp2_with fail
      skip
      refine hK0.out _ _ (KH.out _ hb9) (fun hHeld => ?_)
      clear hK0 K0
      try simp only [Act.put, List.getElem_toArray, List.getElem_cons_succ, List.getElem_cons_zero, List.setIfInBounds_toArray, List.set_cons_zero, List.set_cons_succ]
      refine wpAnyH_take (i := 46) (oi := _) (v := ?_) rfl (by kernel_rfl) (by kernel_rfl) (by kernel_rfl) (fun _ _ _ h => h) (Or.inl ⟨by rfl, ?_⟩) hHeld ?_
      rotate_left
      · (intro w hSw; (try dsimp only at hSw); go_simp; try with_reducible rfl)
      try simp only [Act.put, List.getElem_toArray, List.getElem_cons_succ, List.getElem_cons_zero, List.setIfInBounds_toArray, List.set_cons_zero, List.set_cons_succ]
      refine wpAnyH_take (i := 47) (oi := _) (v := ?_) rfl (by kernel_rfl) (by kernel_rfl) (by kernel_rfl) (fun _ _ _ h => h) (Or.inl ⟨by rfl, ?_⟩) hHeld ?_
      rotate_left
      · (intro w hSw; (try dsimp only at hSw); go_simp; try with_reducible rfl)
      try simp only [Act.put, List.getElem_toArray, List.getElem_cons_succ, List.getElem_cons_zero, List.setIfInBounds_toArray, List.set_cons_zero, List.set_cons_succ]
      refine wpAnyH_done (by kernel_rfl) ?_ _
      go_wp2
      go_ret
      exact ⟨rfl, FIN.out _ hb9⟩

end Go.Proofs.YtkhphkfbjbhgaaaGreat
