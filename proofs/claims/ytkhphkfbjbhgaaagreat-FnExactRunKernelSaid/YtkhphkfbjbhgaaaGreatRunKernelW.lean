/-
  The walk of FnExactRunKernel: whatever came in, it returns true.
-/
import Derived.Test.YtkhphkfbjbhgaaaGreatRun9
import Derived.Test.YtkhphkfbjbhgaaaGreatKit3e
import Derived.Test.YtkhphkfbjbhgaaaGreatKit3f
namespace Go.Proofs.YtkhphkfbjbhgaaaGreat
open Go.RowKit
set_option maxRecDepth 100000

set_option maxHeartbeats 1000000 in
theorem rk3_small (m : Int) (x : Nat → Int) (n : Nat) : (rk3 m x n).2.1.os.length ≤ 12 ∧ (rk3 m x n).2.1.al.length ≤ 4 ∧ (rk3 m x n).2.1.ac.length ≤ 16 ∧ (rk3 m x n).2.2.1.length ≤ 400 ∧ (rk3 m x n).2.2.2.length ≤ 3600 := by
  unfold rk3
  by_cases h1 : (new1 m).1 = 0
  · rw [if_neg (by simp [h1])]
    by_cases h4 : 400 < n
    · rw [if_pos h4]; simp
    · rw [if_neg h4]
      obtain ⟨a, _, c, d⟩ := run3_all (x := x) (sk_new h1).1 rfl n (by omega)
      have v := (vf_zero a.v).2.1
      have l2 := a.l2; have l3 := a.l3
      show (run3 (new3 m) x n).1.os.length ≤ 12 ∧ (run3 (new3 m) x n).1.al.length ≤ 4 ∧ (run3 (new3 m) x n).1.ac.length ≤ 16 ∧ (run3 (new3 m) x n).2.1.length ≤ 400 ∧ (run3 (new3 m) x n).2.2.length ≤ 3600
      omega
  · rw [if_pos h1]; simp

set_option maxHeartbeats 16000000 in
theorem walkRunKernel (mm : Int) (A : Option Addr) (n c : Nat) (x : Nat → Int) (w : World) (hn : n ≤ 9223372036854775807) (h : Sl w 0 w.heap.size A (n * 7) (fun k => .int .i64 (x k))) :
    Calls Tryz.prog 7 #[.int .i64 mm, .slice A n c] w fun e w' => e = .returned (.bool true) ∧ Below w.heap.size w w' := by
  have SZ := Lib.hid (szEventS_any A n c w hn)
  have H := Lib.hid h
  obtain ⟨rk, hrk⟩ : ∃ rk, rk = rk3 mm x n := ⟨_, rfl⟩
  have SM := Lib.hid (rk3_small mm x n)
  rw [← hrk] at SM
  have HRK := Lib.hid hrk
  clear h hrk
  by_cases hs : n ≤ 1048576
  case neg =>
    rw [if_neg hs] at SZ
    have hn2 : ¬ n ≤ 1048576 := hs
    clear hs hn2
    go_enter Tryz.func7, Tryz.ntmps7
    go_wp2_with fail
    refine SZ.out.mono ?_
    rintro e w1 ⟨rfl, rfl⟩
    go_wp2
    go_ret
    exact ⟨rfl, Below.refl _ _⟩
  rw [if_pos hs] at SZ
  obtain ⟨sv, hsv⟩ : ∃ sv : Int, sv = 1048576 - (n : Int) := ⟨_, rfl⟩
  rw [← hsv] at SZ
  have g1 : ¬ sv < 0 := by omega
  have HS := Lib.hid hs
  have SP : Hid (∀ (W : World) (lo hi : Nat) (A' : Option Addr) (c' : Nat), Sl W lo hi A' (n * 7) (fun k => .int .i64 (x k)) → Calls Tryz.prog 30 #[.int .i64 mm, .slice A' n c'] W (RAns rk W)) := fun W lo hi A' c' hl => by
    rw [HRK.out]; exact specRunKernel_any lo hi A' n c' x mm W hs hl
  have IP : Hid (∀ (W : World) (lo hi : Nat) (A' : Option Addr) (c' : Nat), Sl W lo hi A' (n * 7) (fun k => .int .i64 (x k)) → Calls Tryz.prog 31 #[.int .i64 mm, .slice A' n c'] W (RAns rk W)) := fun W lo hi A' c' hl => by
    rw [HRK.out]; exact implRunKernel_any lo hi A' n c' x mm W hs hl
  have TE : Hid (∀ W, Below w.heap.size w W → Calls Tryz.prog 13 #[.slice A n c] W fun e w' => e = .returned (.slice (some ⟨W.heap.size, 0, none⟩) n n) ∧ Row w' W.heap.size 0 78 (n * 7) (fun k => .int .i64 (x k)) ∧ Below W.heap.size W w') := fun W hW =>
    toEventS_any 0 w.heap.size A n c x W (by omega) (H.out.below hW (Nat.le_refl _)) hW.size
  obtain ⟨q, K, cs, ns⟩ := rk
  have SM : Hid (K.os.length ≤ 12 ∧ K.al.length ≤ 4 ∧ K.ac.length ≤ 16 ∧ cs.length ≤ 400 ∧ ns.length ≤ 3600) := SM.out
  clear hs hsv HRK hn
  go_enter Tryz.func7, Tryz.ntmps7
  go_wp2_with fail
  refine SZ.out.mono ?_
  rintro e w1 ⟨rfl, rfl⟩
  clear SZ
  -- the model on a copy
  go_wp2_with fail
  refine (TE.out w (Below.refl _ _)).mono ?_
  rintro e w2 ⟨rfl, hr, hb⟩
  have S2 := Lib.hid (hr.sl (Nat.zero_le _) hr.lt)
  have R2 := Lib.hid hb
  clear hr hb
  go_wp2_with fail
  refine (SP.out w2 0 w2.heap.size _ n S2.out).mono ?_
  rintro e w3 ⟨p0, rfl, ho, hb⟩
  have ho : RQ w3 w2.heap.size w3.heap.size p0 K cs ns := ho
  have O0 := Lib.hid ho
  have R3 := Lib.hid (R2.out.trans (hb.mono R2.out.size))
  clear ho hb S2 SP
  unfold Rq.cells
  dsimp only
  obtain ⟨w4, hw4⟩ : ∃ w4, w4 = w3.alloc (.cells #[.int .i64 q, .slice p0.A1 p0.n1 p0.c1, .slice p0.A2 p0.n2 p0.c2, .slice p0.A3 p0.n3 p0.c3, .int .i64 K.tick, .int .i64 K.run, .slice p0.A4 p0.n4 p0.c4, .slice p0.A5 p0.n5 p0.c5] 52) := ⟨_, rfl⟩
  obtain ⟨b0, hb0⟩ : ∃ b, b = w3.heap.size := ⟨_, rfl⟩
  have K4 : Hid (w4.heap[b0]? = some (.cells #[.int .i64 q, .slice p0.A1 p0.n1 p0.c1, .slice p0.A2 p0.n2 p0.c2, .slice p0.A3 p0.n3 p0.c3, .int .i64 K.tick, .int .i64 K.run, .slice p0.A4 p0.n4 p0.c4, .slice p0.A5 p0.n5 p0.c5] 52 (0, 0))) := by show _ = _; rw [hw4, hb0]; exact heap_alloc_new w3 _
  have BN4 : Hid (Below w3.heap.size w3 w4) := by rw [hw4]; exact below_new w3 _
  have Z4 : Hid (w4.heap.size = b0 + 1 ∧ b0 = w3.heap.size) := by show _ ∧ _; rw [hw4, hb0]; simp
  have R4 := Lib.hid (R3.out.trans (BN4.out.mono R3.out.size))
  have F0 : Hid (∀ W, Below w4.heap.size w4 W → (W.cell? ⟨b0, 0, none⟩ = some (.int .i64 q) ∧ W.cell? ⟨b0, 1, none⟩ = some (.slice p0.A1 p0.n1 p0.c1) ∧ W.cell? ⟨b0, 2, none⟩ = some (.slice p0.A2 p0.n2 p0.c2) ∧ W.cell? ⟨b0, 3, none⟩ = some (.slice p0.A3 p0.n3 p0.c3) ∧ W.cell? ⟨b0, 4, none⟩ = some (.int .i64 K.tick) ∧ W.cell? ⟨b0, 5, none⟩ = some (.int .i64 K.run) ∧ W.cell? ⟨b0, 6, none⟩ = some (.slice p0.A4 p0.n4 p0.c4) ∧ W.cell? ⟨b0, 7, none⟩ = some (.slice p0.A5 p0.n5 p0.c5)) ∧ RQ W w2.heap.size w3.heap.size p0 K cs ns) := fun W hW => by
    have j := (hW.block b0 (by have := Z4.out; omega)).trans K4.out
    exact ⟨⟨cell_of_row W _ 0 _ _ _ j, cell_of_row W _ 1 _ _ _ j, cell_of_row W _ 2 _ _ _ j, cell_of_row W _ 3 _ _ _ j, cell_of_row W _ 4 _ _ _ j, cell_of_row W _ 5 _ _ _ j, cell_of_row W _ 6 _ _ _ j, cell_of_row W _ 7 _ _ _ j⟩, (O0.out.below BN4.out (Nat.le_refl _)).below (hW.mono (Nat.le_refl _)) (by have := Z4.out; omega)⟩
  have HW := Lib.hid hw4; have HB0 := Lib.hid hb0
  clear hw4 hb0 K4 BN4 O0
  go_upto_region 6 with (fail)
  rw [← HW.out, ← HB0.out]
  clear HW HB0
  -- the copy that the program gets
  go_wp2_with fail
  refine (TE.out w4 R4.out).mono ?_
  rintro e w5 ⟨rfl, hr, hb⟩
  obtain ⟨gx, hgx⟩ : ∃ g, g = w4.heap.size := ⟨_, rfl⟩
  rw [← hgx] at hr ⊢
  have GX := Lib.hid hgx
  have X5 := Lib.hid hr
  have Z5 : Hid (gx < w5.heap.size) := hr.lt
  have R5 := Lib.hid hb
  clear hr hb hgx
  go_wp2_with fail
  refine (IP.out w5 0 w5.heap.size _ n (X5.out.sl (Nat.zero_le _) Z5.out)).mono ?_
  rintro e w6 ⟨p1, rfl, ho, hb⟩
  have ho : RQ w6 w5.heap.size w6.heap.size p1 K cs ns := ho
  have O1 := Lib.hid ho
  have R6 := Lib.hid (R5.out.trans (hb.mono R5.out.size))
  have R56 := Lib.hid hb
  have X6 := Lib.hid (X5.out.below hb Z5.out)
  clear ho hb X5
  unfold Rq.cells
  dsimp only
  obtain ⟨w7, hw7⟩ : ∃ w7, w7 = w6.alloc (.cells #[.int .i64 q, .slice p1.A1 p1.n1 p1.c1, .slice p1.A2 p1.n2 p1.c2, .slice p1.A3 p1.n3 p1.c3, .int .i64 K.tick, .int .i64 K.run, .slice p1.A4 p1.n4 p1.c4, .slice p1.A5 p1.n5 p1.c5] 52) := ⟨_, rfl⟩
  obtain ⟨b1, hb1⟩ : ∃ b, b = w6.heap.size := ⟨_, rfl⟩
  have K7 : Hid (w7.heap[b1]? = some (.cells #[.int .i64 q, .slice p1.A1 p1.n1 p1.c1, .slice p1.A2 p1.n2 p1.c2, .slice p1.A3 p1.n3 p1.c3, .int .i64 K.tick, .int .i64 K.run, .slice p1.A4 p1.n4 p1.c4, .slice p1.A5 p1.n5 p1.c5] 52 (0, 0))) := by show _ = _; rw [hw7, hb1]; exact heap_alloc_new w6 _
  have BN7 : Hid (Below w6.heap.size w6 w7) := by rw [hw7]; exact below_new w6 _
  have Z7 : Hid (w7.heap.size = b1 + 1 ∧ b1 = w6.heap.size ∧ w5.heap.size ≤ b1 ∧ gx < w5.heap.size) := by show _ ∧ _; rw [hw7, hb1]; have := R56.out.size; have := Z5.out; simp; omega
  have R7 := Lib.hid (R6.out.trans (BN7.out.mono R6.out.size))
  have G1 : Hid (∀ W, Below w7.heap.size w7 W → W.heap[b1]? = some (.cells #[.int .i64 q, .slice p1.A1 p1.n1 p1.c1, .slice p1.A2 p1.n2 p1.c2, .slice p1.A3 p1.n3 p1.c3, .int .i64 K.tick, .int .i64 K.run, .slice p1.A4 p1.n4 p1.c4, .slice p1.A5 p1.n5 p1.c5] 52 (0, 0)) ∧ RQ W w5.heap.size b1 p1 K cs ns ∧ Row W gx 0 78 (n * 7) (fun k => .int .i64 (x k))) := fun W hW => by
    have z := Z7.out
    have o1 := (O1.out.below BN7.out (Nat.le_refl _)).below (hW.mono (Nat.le_refl _)) (by omega)
    rw [← z.2.1] at o1
    exact ⟨(hW.block b1 (by omega)).trans K7.out, o1, (X6.out.below BN7.out (by have := R56.out.size; omega)).below hW (by omega)⟩
  have HW := Lib.hid hw7; have HB1 := Lib.hid hb1
  clear hw7 hb1 K7 BN7 O1 X6 R56 R6
  go_upto_region 8 with (fail)
  rw [← HW.out, ← HB1.out]
  clear HW HB1
  obtain ⟨⟨s0, s1, s2, s3, s4, s5, s6, s7⟩, o0⟩ := F0.out w7 R7.out
  obtain ⟨hg, o1, _⟩ := G1.out w7 (Below.refl _ _)
  obtain ⟨z0, z1, z2, z3, z4, z5, z6, z7⟩ : w7.cell? ⟨b1, 0, none⟩ = some (.int .i64 q) ∧ w7.cell? ⟨b1, 1, none⟩ = some (.slice p1.A1 p1.n1 p1.c1) ∧ w7.cell? ⟨b1, 2, none⟩ = some (.slice p1.A2 p1.n2 p1.c2) ∧ w7.cell? ⟨b1, 3, none⟩ = some (.slice p1.A3 p1.n3 p1.c3) ∧ w7.cell? ⟨b1, 4, none⟩ = some (.int .i64 K.tick) ∧ w7.cell? ⟨b1, 5, none⟩ = some (.int .i64 K.run) ∧ w7.cell? ⟨b1, 6, none⟩ = some (.slice p1.A4 p1.n4 p1.c4) ∧ w7.cell? ⟨b1, 7, none⟩ = some (.slice p1.A5 p1.n5 p1.c5) := ⟨cell_of_row w7 _ 0 _ _ _ hg, cell_of_row w7 _ 1 _ _ _ hg, cell_of_row w7 _ 2 _ _ _ hg, cell_of_row w7 _ 3 _ _ _ hg, cell_of_row w7 _ 4 _ _ _ hg, cell_of_row w7 _ 5 _ _ _ hg, cell_of_row w7 _ 6 _ _ _ hg, cell_of_row w7 _ 7 _ _ _ hg⟩
  have E0 := Lib.hid o0; have E1 := Lib.hid o1
  clear hg o0 o1
  go_wp2_with fail
  refine (eqRQ_own SM.out E1.out E0.out).mono ?_
  rintro e w8 ⟨rfl, hb⟩
  have Q8 := Lib.hid hb
  clear hb s0 s1 s2 s3 s4 s5 s6 s7 z0 z1 z2 z3 z4 z5 z6 z7 E0 E1
  have RW : Hid (∀ W, Below w7.heap.size w7 W → Below w.heap.size w W) := fun W hW => (R4.out.trans (R7.out.mono R4.out.size)).trans (hW.mono (Nat.le_trans R4.out.size R7.out.size))
  go_wp2_with fail
  refine (TE.out w8 (RW.out w8 Q8.out)).mono ?_
  rintro e w9 ⟨rfl, hr, hb⟩
  have S9 := Lib.hid (hr.sl (Nat.zero_le _) hr.lt)
  have Q9 := Lib.hid (Q8.out.trans (hb.mono Q8.out.size))
  clear hr hb
  obtain ⟨_, _, hx⟩ := G1.out w9 Q9.out
  have XX := Lib.hid (hx.sl (Nat.zero_le _) hx.lt)
  clear hx
  go_wp2_with fail
  refine (eqEventS_same _ _ _ _ _ _ n n n x w9 (by have := HS.out; omega) XX.out S9.out).mono ?_
  rintro e w10 ⟨rfl, hb⟩
  have Q10 := Lib.hid (Q9.out.trans (hb.mono Q9.out.size))
  clear hb XX S9 Q8 Q9
  obtain ⟨hg, o1, hx⟩ := G1.out w10 Q10.out
  have XM : Hid (Mine w10 gx (gx + 1) 78 (some ⟨gx, 0, none⟩) (n * 7) (fun k => .int .i64 (x k))) := .inr ⟨gx, 0, rfl, Nat.le_refl _, Nat.lt_succ_self _, hx⟩
  have HG := Lib.hid hg; have O1 := Lib.hid o1
  clear hg o1 hx
  go_wp2_with fail
  refine (markEventS_any gx (gx + 1) _ n n _ 1 w10 (by have := HS.out; omega) (by omega) (fun k _ => ⟨_, rfl⟩) XM.out).mono ?_
  rintro e w11 ⟨rfl, _, hw⟩
  have G11 : Hid (w11.heap[b1]? = some (.cells #[.int .i64 q, .slice p1.A1 p1.n1 p1.c1, .slice p1.A2 p1.n2 p1.c2, .slice p1.A3 p1.n3 p1.c3, .int .i64 K.tick, .int .i64 K.run, .slice p1.A4 p1.n4 p1.c4, .slice p1.A5 p1.n5 p1.c5] 52 (0, 0)) ∧ RQ w11 w5.heap.size b1 p1 K cs ns) := by
    have z := Z7.out
    have s10 := Q10.out.size
    exact ⟨(hw.block (by omega) (.inr (by omega))).trans HG.out, O1.out.keep fun b h1 h2 => hw.block (by omega) (.inr (by omega))⟩
  have W11 : Hid (Below w4.heap.size w4 w11) := (R7.out.trans (Q10.out.mono R7.out.size)).trans (hw.1.mono (by rw [GX.out]; exact Nat.le_refl _))
  have Z11 : Hid (w7.heap.size ≤ w11.heap.size) := Nat.le_trans Q10.out.size hw.1.size
  have hm0 : ¬ (((1 + n * 7 : Nat) : Int) < 0) := by omega
  clear hw XM HG O1 G1 Q10
  obtain ⟨⟨s0, s1, s2, s3, s4, s5, s6, s7⟩, o0⟩ := F0.out w11 W11.out
  obtain ⟨z0, z1, z2, z3, z4, z5, z6, z7⟩ : w11.cell? ⟨b1, 0, none⟩ = some (.int .i64 q) ∧ w11.cell? ⟨b1, 1, none⟩ = some (.slice p1.A1 p1.n1 p1.c1) ∧ w11.cell? ⟨b1, 2, none⟩ = some (.slice p1.A2 p1.n2 p1.c2) ∧ w11.cell? ⟨b1, 3, none⟩ = some (.slice p1.A3 p1.n3 p1.c3) ∧ w11.cell? ⟨b1, 4, none⟩ = some (.int .i64 K.tick) ∧ w11.cell? ⟨b1, 5, none⟩ = some (.int .i64 K.run) ∧ w11.cell? ⟨b1, 6, none⟩ = some (.slice p1.A4 p1.n4 p1.c4) ∧ w11.cell? ⟨b1, 7, none⟩ = some (.slice p1.A5 p1.n5 p1.c5) := ⟨cell_of_row w11 _ 0 _ _ _ G11.out.1, cell_of_row w11 _ 1 _ _ _ G11.out.1, cell_of_row w11 _ 2 _ _ _ G11.out.1, cell_of_row w11 _ 3 _ _ _ G11.out.1, cell_of_row w11 _ 4 _ _ _ G11.out.1, cell_of_row w11 _ 5 _ _ _ G11.out.1, cell_of_row w11 _ 6 _ _ _ G11.out.1, cell_of_row w11 _ 7 _ _ _ G11.out.1⟩
  have E0 := Lib.hid o0
  clear o0
  go_wp2_with fail
  refine (eqRQ_own SM.out G11.out.2 E0.out).mono ?_
  rintro e w12 ⟨rfl, hb⟩
  have G12 : Hid (w12.heap[b1]? = some (.cells #[.int .i64 q, .slice p1.A1 p1.n1 p1.c1, .slice p1.A2 p1.n2 p1.c2, .slice p1.A3 p1.n3 p1.c3, .int .i64 K.tick, .int .i64 K.run, .slice p1.A4 p1.n4 p1.c4, .slice p1.A5 p1.n5 p1.c5] 52 (0, 0)) ∧ RQ w12 w5.heap.size b1 p1 K cs ns) := by
    have z := Z7.out; have z11 := Z11.out
    exact ⟨(hb.block _ (by omega)).trans G11.out.1, G11.out.2.below hb (by omega)⟩
  have W12 := Lib.hid (W11.out.trans (hb.mono W11.out.size))
  have Z12 : Hid (w7.heap.size ≤ w12.heap.size) := Nat.le_trans Z11.out hb.size
  clear hb s0 s1 s2 s3 s4 s5 s6 s7 z0 z1 z2 z3 z4 z5 z6 z7 E0 G11 W11 Z11 hm0
  obtain ⟨z0, z1, z2, z3, z4, z5, z6, z7⟩ : w12.cell? ⟨b1, 0, none⟩ = some (.int .i64 q) ∧ w12.cell? ⟨b1, 1, none⟩ = some (.slice p1.A1 p1.n1 p1.c1) ∧ w12.cell? ⟨b1, 2, none⟩ = some (.slice p1.A2 p1.n2 p1.c2) ∧ w12.cell? ⟨b1, 3, none⟩ = some (.slice p1.A3 p1.n3 p1.c3) ∧ w12.cell? ⟨b1, 4, none⟩ = some (.int .i64 K.tick) ∧ w12.cell? ⟨b1, 5, none⟩ = some (.int .i64 K.run) ∧ w12.cell? ⟨b1, 6, none⟩ = some (.slice p1.A4 p1.n4 p1.c4) ∧ w12.cell? ⟨b1, 7, none⟩ = some (.slice p1.A5 p1.n5 p1.c5) := ⟨cell_of_row w12 _ 0 _ _ _ G12.out.1, cell_of_row w12 _ 1 _ _ _ G12.out.1, cell_of_row w12 _ 2 _ _ _ G12.out.1, cell_of_row w12 _ 3 _ _ _ G12.out.1, cell_of_row w12 _ 4 _ _ _ G12.out.1, cell_of_row w12 _ 5 _ _ _ G12.out.1, cell_of_row w12 _ 6 _ _ _ G12.out.1, cell_of_row w12 _ 7 _ _ _ G12.out.1⟩
  go_wp2_with fail
  refine (markRQ_own SM.out G12.out.2 (by have := Z7.out; have := Z12.out; omega)).mono ?_
  rintro e w13 ⟨rfl, hmk, hk⟩
  have LT : Hid (p1.lt w13) := by
    have z := Z7.out; have z12 := Z12.out; have s := hk.1.size
    have o := G12.out.2
    have c1 := o.b1; have c2 := o.b2; have c3 := o.b3; have c4 := o.b4; have c5 := o.b5
    exact ⟨by omega, by omega, by omega, by omega, by omega⟩
  have PB : Hid (p1.n1 ≤ 12 ∧ p1.n2 ≤ 4 ∧ p1.n3 ≤ 4 ∧ p1.n4 ≤ 400 ∧ p1.n5 ≤ 1200) := by
    have o := G12.out.2
    have c1 := o.l1; have c2 := o.l2; have c3 := o.l3; have c4 := o.l4; have c5 := o.l5
    have sm := SM.out
    exact ⟨by omega, by omega, by omega, by omega, by omega⟩
  have W13 : Hid (Below w4.heap.size w4 w13) := W12.out.trans (hk.below W12.out.size fun b hb => by
    have o := G12.out.2
    have c1 := o.b1; have c2 := o.b2; have c3 := o.b3; have c4 := o.b4; have c5 := o.b5
    have s5 := R5.out.size
    simp only [List.mem_cons, List.not_mem_nil, or_false] at hb
    rcases hb with rfl | rfl | rfl | rfl | rfl <;> omega)
  have G13 : Hid (w13.heap[b1]? = some (.cells #[.int .i64 q, .slice p1.A1 p1.n1 p1.c1, .slice p1.A2 p1.n2 p1.c2, .slice p1.A3 p1.n3 p1.c3, .int .i64 K.tick, .int .i64 K.run, .slice p1.A4 p1.n4 p1.c4, .slice p1.A5 p1.n5 p1.c5] 52 (0, 0))) := (hk.2 b1 (Array.getElem?_eq_some_iff.1 G12.out.1).1 (by
    have o := G12.out.2
    have c1 := o.b1; have c2 := o.b2; have c3 := o.b3; have c4 := o.b4; have c5 := o.b5
    simp only [List.mem_cons, List.not_mem_nil, or_false, not_or]
    exact ⟨by omega, by omega, by omega, by omega, by omega⟩)).trans G12.out.1
  have MK := Lib.hid hmk
  have HE : Hid (∀ W, Below w13.heap.size w13 W → (W.cell? ⟨b1, 0, none⟩ = some (.int .i64 q) ∧ W.cell? ⟨b1, 1, none⟩ = some (.slice p1.A1 p1.n1 p1.c1) ∧ W.cell? ⟨b1, 2, none⟩ = some (.slice p1.A2 p1.n2 p1.c2) ∧ W.cell? ⟨b1, 3, none⟩ = some (.slice p1.A3 p1.n3 p1.c3) ∧ W.cell? ⟨b1, 4, none⟩ = some (.int .i64 K.tick) ∧ W.cell? ⟨b1, 5, none⟩ = some (.int .i64 K.run) ∧ W.cell? ⟨b1, 6, none⟩ = some (.slice p1.A4 p1.n4 p1.c4) ∧ W.cell? ⟨b1, 7, none⟩ = some (.slice p1.A5 p1.n5 p1.c5)) ∧ Calls Tryz.prog 34 #[.agg (p1.cells q K), .int .i64 1] W fun e w' => e = .returned (.int .i64 (p1.tot : Int)) ∧ Below w13.heap.size w13 w') := fun W hW => by
    have j := (hW.block b1 (Array.getElem?_eq_some_iff.1 G13.out).1).trans G13.out
    have lt := LT.out
    have s := hW.size
    refine ⟨⟨cell_of_row W _ 0 _ _ _ j, cell_of_row W _ 1 _ _ _ j, cell_of_row W _ 2 _ _ _ j, cell_of_row W _ 3 _ _ _ j, cell_of_row W _ 4 _ _ _ j, cell_of_row W _ 5 _ _ _ j, cell_of_row W _ 6 _ _ _ j, cell_of_row W _ 7 _ _ _ j⟩, (heldRQ_own PB.out (MK.out.below hW LT.out) ?_).mono fun e w' ⟨a, b⟩ => ⟨a, hW.trans (b.mono hW.size)⟩⟩
    obtain ⟨c1, c2, c3, c4, c5⟩ := lt
    exact ⟨by omega, by omega, by omega, by omega, by omega⟩
  clear hmk hk z0 z1 z2 z3 z4 z5 z6 z7 G12 W12 MK PB LT
  obtain ⟨tot, ht⟩ : ∃ t : Nat, t = p1.tot := ⟨_, rfl⟩
  rw [← ht] at HE ⊢
  have t1 : ¬ ((tot : Int) < 0) := by omega
  clear ht
  obtain ⟨⟨z0, z1, z2, z3, z4, z5, z6, z7⟩, hh⟩ := HE.out w13 (Below.refl _ _)
  have HH := Lib.hid hh
  clear hh
  go_wp2_with fail
  refine HH.out.mono ?_
  rintro e w14 ⟨rfl, hb⟩
  have Q14 := Lib.hid hb
  clear hb z0 z1 z2 z3 z4 z5 z6 z7 HH
  have RW2 : Hid (∀ W, Below w13.heap.size w13 W → Below w4.heap.size w4 W) := fun W hW => W13.out.trans (hW.mono W13.out.size)
  have RW3 : Hid (∀ W, Below w4.heap.size w4 W → Below w.heap.size w W) := fun W hW => R4.out.trans (hW.mono R4.out.size)
  -- once more
  go_wp2_with fail
  refine (TE.out w14 (RW3.out _ (RW2.out _ Q14.out))).mono ?_
  rintro e w15 ⟨rfl, hr, hb⟩
  have S15 := Lib.hid (hr.sl (Nat.zero_le _) hr.lt)
  have Q15 := Lib.hid (Q14.out.trans (hb.mono Q14.out.size))
  clear hr hb
  go_wp2_with fail
  refine (IP.out w15 0 w15.heap.size _ n S15.out).mono ?_
  rintro e w16 ⟨p2, rfl, ho, hb⟩
  have ho : RQ w16 w15.heap.size w16.heap.size p2 K cs ns := ho
  have O2 := Lib.hid ho
  have Q16 := Lib.hid (Q15.out.trans (hb.mono Q15.out.size))
  clear ho hb S15
  unfold Rq.cells
  dsimp only
  obtain ⟨w17, hw17⟩ : ∃ w17, w17 = w16.alloc (.cells #[.int .i64 q, .slice p2.A1 p2.n1 p2.c1, .slice p2.A2 p2.n2 p2.c2, .slice p2.A3 p2.n3 p2.c3, .int .i64 K.tick, .int .i64 K.run, .slice p2.A4 p2.n4 p2.c4, .slice p2.A5 p2.n5 p2.c5] 52) := ⟨_, rfl⟩
  obtain ⟨b2, hb2⟩ : ∃ b, b = w16.heap.size := ⟨_, rfl⟩
  have K17 : Hid (w17.heap[b2]? = some (.cells #[.int .i64 q, .slice p2.A1 p2.n1 p2.c1, .slice p2.A2 p2.n2 p2.c2, .slice p2.A3 p2.n3 p2.c3, .int .i64 K.tick, .int .i64 K.run, .slice p2.A4 p2.n4 p2.c4, .slice p2.A5 p2.n5 p2.c5] 52 (0, 0))) := by show _ = _; rw [hw17, hb2]; exact heap_alloc_new w16 _
  have BN17 : Hid (Below w16.heap.size w16 w17) := by rw [hw17]; exact below_new w16 _
  have Q17 := Lib.hid (Q16.out.trans (BN17.out.mono Q16.out.size))
  have O17 := Lib.hid (O2.out.below BN17.out (Nat.le_refl _))
  have HW := Lib.hid hw17; have HB2 := Lib.hid hb2
  clear hw17 hb2 O2 BN17
  go_upto_region 25 with (fail)
  rw [← HW.out, ← HB2.out]
  clear HW HB2
  obtain ⟨⟨s0, s1, s2, s3, s4, s5, s6, s7⟩, o0⟩ := F0.out w17 (RW2.out _ Q17.out)
  obtain ⟨z0, z1, z2, z3, z4, z5, z6, z7⟩ : w17.cell? ⟨b2, 0, none⟩ = some (.int .i64 q) ∧ w17.cell? ⟨b2, 1, none⟩ = some (.slice p2.A1 p2.n1 p2.c1) ∧ w17.cell? ⟨b2, 2, none⟩ = some (.slice p2.A2 p2.n2 p2.c2) ∧ w17.cell? ⟨b2, 3, none⟩ = some (.slice p2.A3 p2.n3 p2.c3) ∧ w17.cell? ⟨b2, 4, none⟩ = some (.int .i64 K.tick) ∧ w17.cell? ⟨b2, 5, none⟩ = some (.int .i64 K.run) ∧ w17.cell? ⟨b2, 6, none⟩ = some (.slice p2.A4 p2.n4 p2.c4) ∧ w17.cell? ⟨b2, 7, none⟩ = some (.slice p2.A5 p2.n5 p2.c5) := ⟨cell_of_row w17 _ 0 _ _ _ K17.out, cell_of_row w17 _ 1 _ _ _ K17.out, cell_of_row w17 _ 2 _ _ _ K17.out, cell_of_row w17 _ 3 _ _ _ K17.out, cell_of_row w17 _ 4 _ _ _ K17.out, cell_of_row w17 _ 5 _ _ _ K17.out, cell_of_row w17 _ 6 _ _ _ K17.out, cell_of_row w17 _ 7 _ _ _ K17.out⟩
  have E0 := Lib.hid o0
  clear o0
  go_wp2_with fail
  refine (eqRQ_own SM.out O17.out E0.out).mono ?_
  rintro e w18 ⟨rfl, hb⟩
  have Q18 := Lib.hid (Q17.out.trans (hb.mono Q17.out.size))
  clear hb s0 s1 s2 s3 s4 s5 s6 s7 z0 z1 z2 z3 z4 z5 z6 z7 E0 O17 K17
  obtain ⟨⟨z0, z1, z2, z3, z4, z5, z6, z7⟩, hh⟩ := HE.out w18 Q18.out
  have HH := Lib.hid hh
  clear hh
  go_wp2_with fail
  refine HH.out.mono ?_
  rintro e w19 ⟨rfl, hb⟩
  have Q19 := Lib.hid (RW3.out _ (RW2.out _ hb))
  clear hb z0 z1 z2 z3 z4 z5 z6 z7 HH
  go_wp2
  go_ret
  exact ⟨rfl, Q19.out⟩

end Go.Proofs.YtkhphkfbjbhgaaaGreat
