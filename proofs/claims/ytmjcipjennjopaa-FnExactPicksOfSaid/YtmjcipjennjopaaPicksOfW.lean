/-
  The walk of FnExactPicksOf: whatever came in, it returns true.
-/
import Derived.Test.YtmjcipjennjopaaKit5
import Derived.Test.YtmjcipjennjopaaKit5b
import Derived.Test.YtmjcipjennjopaaKit5c
import Derived.Test.YtmjcipjennjopaaSpec5j
import Derived.Test.YtmjcipjennjopaaImpl5i
import Derived.Deep.RegionHeld3
namespace Go.Proofs.Ytmjcipjennjopaa
open Go.RowKit
set_option maxRecDepth 100000

set_option maxHeartbeats 8000000 in
theorem walkPicksOf (A : Option Addr) (n c : Nat) (b : Int) (xs : List R3) (t : Int) (w : World) (hn : n ≤ 9223372036854775807) (hl : n = xs.length) (h : RS w 0 w.heap.size A xs) :
    Calls Try.prog 5 #[.agg #[.int .i64 b, .slice A n c], .int .i64 t] w fun e w' => e = .returned (.bool true) ∧ Below w.heap.size w w' := by
  obtain ⟨w1, hw1⟩ : ∃ w1, w1 = w.alloc (.cells #[.int .i64 b, .slice A n c] 53) := ⟨_, rfl⟩
  have k1 : w1.heap[w.heap.size]? = some (.cells #[.int .i64 b, .slice A n c] 53 (0, 0)) := by rw [hw1]; exact heap_alloc_new w _
  have B1 : Hid (Below w.heap.size w w1) := by rw [hw1]; exact below_new w _
  have Z1 : Hid (w1.heap.size = w.heap.size + 1) := by show _ = _; rw [hw1]; simp
  have QS : Hid (∀ W, Below w1.heap.size w1 W → W.cell? ⟨w.heap.size, 0, none⟩ = some (.int .i64 b) ∧ W.cell? ⟨w.heap.size, 1, none⟩ = some (.slice A n c)) := fun W hW => by
    have j := (hW.block w.heap.size (by have := Z1.out; omega)).trans k1
    exact ⟨cell_of_row W _ 0 _ _ _ j, cell_of_row W _ 1 _ _ _ j⟩
  have HW1 := Lib.hid hw1
  have HL := Lib.hid hl
  have HS : Hid (Sl w1 0 w.heap.size A (n * 3) (fun k => .int .i64 (gi (fl xs) k))) := by rw [hl]; exact h.below B1.out (Nat.le_refl _)
  have FIN : Hid (∀ W, Below w1.heap.size w1 W → Below w.heap.size w W) := fun W hW => B1.out.trans (hW.mono (by have := Z1.out; omega))
  have SZ := Lib.hid (szSched_any A n c b w1 hn)
  have TK : Hid (∀ W, Below w1.heap.size w1 W → n ≤ 1048576 → Calls Try.prog 33 #[.agg #[.int .i64 b, .slice A n c]] W fun e w' => ∃ u, e = .returned (.agg #[.int .i64 b, .slice (some ⟨u, 0, none⟩) n n]) ∧ (W.heap.size ≤ u ∧ u < w'.heap.size) ∧ Mine w' u (u + 1) 70 (some ⟨u, 0, none⟩) (n * 3) (fun k => .int .i64 (gi (fl xs) k)) ∧ Below W.heap.size W w') := fun W hW h20 =>
    (toSched_any 0 w.heap.size A n c b (gi (fl xs)) W (by omega) (HS.out.below hW (by have := Z1.out; omega))).mono fun e w' ⟨u, h1, h2, h3, h4⟩ => ⟨u, h1, h2, .inr ⟨u, 0, rfl, Nat.le_refl _, Nat.lt_succ_self _, h3⟩, h4⟩
  clear h hl k1 hw1 hn
  obtain ⟨q0, q1⟩ := QS.out w1 (Below.refl _ _)
  go_enter Try.func5, Try.ntmps5
  go_upto_region 1 with (fail)
  rw [← HW1.out]
  clear HW1
  go_wp2_with fail
  refine SZ.out.mono ?_
  rintro e9 w2 ⟨rfl, hb⟩
  have R2 := Lib.hid hb
  clear SZ q0 q1 hb
  obtain ⟨q0, q1⟩ := QS.out w2 R2.out
  by_cases hs : n ≤ 1048576
  rotate_left
  · rw [if_neg hs]
    go_wp2
    go_ret
    exact ⟨rfl, FIN.out _ R2.out⟩
  have z20 : ¬ (1048576 - (n : Int) < 0) := by omega
  rw [if_pos hs]
  have H20 := Lib.hid hs
  clear hs
  obtain ⟨r5, hr5⟩ : ∃ r5, r5 = picks5 b xs t := ⟨_, rfl⟩
  have SM := Lib.hid (show r5.2.1.length ≤ 200 ∧ r5.2.2.2.length ≤ 6 by rw [hr5]; exact picks5_len b xs t)
  have SP : Hid (∀ W u, Mine W u (u + 1) 70 (some ⟨u, 0, none⟩) (n * 3) (fun k => .int .i64 (gi (fl xs) k)) → Calls Try.prog 27 #[.agg #[.int .i64 b, .slice (some ⟨u, 0, none⟩) n n], .int .i64 t] W (PA r5 W)) := fun W u hm => by
    have hm := hm.sl
    have l := HL.out
    have h20 := H20.out
    subst l
    rw [hr5]
    exact specPicksOf_any u (u + 1) _ _ b xs t W (by omega) hm
  have IP : Hid (∀ W u, Mine W u (u + 1) 70 (some ⟨u, 0, none⟩) (n * 3) (fun k => .int .i64 (gi (fl xs) k)) → Calls Try.prog 22 #[.agg #[.int .i64 b, .slice (some ⟨u, 0, none⟩) n n], .int .i64 t] W (PA r5 W)) := fun W u hm => by
    have hm := hm.sl
    have l := HL.out
    have h20 := H20.out
    subst l
    rw [hr5]
    exact implPicksOf_any u (u + 1) _ _ b xs t W (by omega) hm
  clear hr5
  obtain ⟨rq, zs, rb, ys⟩ := r5
  have SM : Hid (zs.length ≤ 200 ∧ ys.length ≤ 6) := SM.out
  obtain ⟨m, hm0⟩ : ∃ m, m = ys.length := ⟨_, rfl⟩
  obtain ⟨m2, hm2⟩ : ∃ m2, m2 = zs.length := ⟨_, rfl⟩
  have SP : Hid (∀ W u, Mine W u (u + 1) 70 (some ⟨u, 0, none⟩) (n * 3) (fun k => .int .i64 (gi (fl xs) k)) → Calls Try.prog 27 #[.agg #[.int .i64 b, .slice (some ⟨u, 0, none⟩) n n], .int .i64 t] W fun e w' => ∃ I d A c, e = .returned (.agg #[.int .i64 rq, .slice I m2 d, .int .i64 rb, .slice A m c]) ∧ OR 2 1 w' W.heap.size I m2 d zs ∧ OR 70 3 w' W.heap.size A m c (fl ys) ∧ Below W.heap.size W w') := by rw [hm0, hm2]; exact SP.out
  have IP : Hid (∀ W u, Mine W u (u + 1) 70 (some ⟨u, 0, none⟩) (n * 3) (fun k => .int .i64 (gi (fl xs) k)) → Calls Try.prog 22 #[.agg #[.int .i64 b, .slice (some ⟨u, 0, none⟩) n n], .int .i64 t] W fun e w' => ∃ I d A c, e = .returned (.agg #[.int .i64 rq, .slice I m2 d, .int .i64 rb, .slice A m c]) ∧ OR 2 1 w' W.heap.size I m2 d zs ∧ OR 70 3 w' W.heap.size A m c (fl ys) ∧ Below W.heap.size W w') := by rw [hm0, hm2]; exact IP.out
  have HM := Lib.hid (show m ≤ 6 ∧ m2 ≤ 200 by rw [hm0, hm2]; exact ⟨SM.out.2, SM.out.1⟩)
  clear hm0 hm2 SM
  go_wp2_with fail
  refine (TK.out _ R2.out H20.out).mono ?_
  rintro e9 w3 ⟨u0, rfl, hu, hm, hb⟩
  have R3 := Lib.hid (R2.out.trans (hb.mono R2.out.size))
  have M3 := Lib.hid hm
  have U3 := Lib.hid hu
  clear hu hm hb q0 q1
  obtain ⟨q0, q1⟩ := QS.out w3 R3.out
  go_wp2_with fail
  refine (SP.out _ _ M3.out).mono ?_
  rintro e9 w4 ⟨Iw, dw, Aw, cw, rfl, hov, how, hb⟩
  have R4 := Lib.hid (R3.out.trans (hb.mono R3.out.size))
  have U4 := Lib.hid hb.size
  have SW4 := Lib.hid (OR.sl0 how)
  have SV4 : Hid (Sl w4 w3.heap.size w4.heap.size Iw m2 (fun k => .int .i64 (gi zs k))) := by have := OR.sl0 hov; rw [Nat.mul_one] at this; exact this
  clear hb how hov M3 SP q0 q1
  obtain ⟨w5, hw5⟩ : ∃ w5, w5 = w4.alloc (.cells #[.int .i64 rq, .slice Iw m2 dw, .int .i64 rb, .slice Aw m cw] 45) := ⟨_, rfl⟩
  have X5 : Hid (w5.heap[w4.heap.size]? = some (.cells #[.int .i64 rq, .slice Iw m2 dw, .int .i64 rb, .slice Aw m cw] 45 (0, 0))) := by show _ = _; rw [hw5]; exact heap_alloc_new w4 _
  have N5 : Hid (Below w4.heap.size w4 w5) := by rw [hw5]; exact below_new w4 _
  have R5 := Lib.hid (R4.out.trans (N5.out.mono R4.out.size))
  have Z5 : Hid (w5.heap.size = w4.heap.size + 1) := by show _ = _; rw [hw5]; simp
  have SW5 := Lib.hid (Sl.below SW4.out N5.out (Nat.le_refl _))
  have SV5 := Lib.hid (Sl.below SV4.out N5.out (Nat.le_refl _))
  have HW5 := Lib.hid hw5
  clear hw5 SW4 SV4
  obtain ⟨q0, q1⟩ := QS.out w5 R5.out
  go_upto_region 6 with (fail)
  rw [← HW5.out]
  clear HW5
  go_wp2_with fail
  refine (TK.out _ R5.out H20.out).mono ?_
  rintro e9 w6 ⟨u, rfl, hu, hm, hb⟩
  have R6 := Lib.hid (R5.out.trans (hb.mono R5.out.size))
  have M6 := Lib.hid hm
  have U6 := Lib.hid hu
  have G6 := Lib.hid hb
  clear hm hb q0 q1 hu
  obtain ⟨w7, hw7⟩ : ∃ w7, w7 = w6.alloc (.cells #[.int .i64 b, .slice (some ⟨u, 0, none⟩) n n] 26) := ⟨_, rfl⟩
  have X7 : Hid (w7.heap[w6.heap.size]? = some (.cells #[.int .i64 b, .slice (some ⟨u, 0, none⟩) n n] 26 (0, 0))) := by show _ = _; rw [hw7]; exact heap_alloc_new w6 _
  have N7 : Hid (Below w6.heap.size w6 w7) := by rw [hw7]; exact below_new w6 _
  have R7 := Lib.hid (R6.out.trans (N7.out.mono R6.out.size))
  have Z7 : Hid (w7.heap.size = w6.heap.size + 1) := by show _ = _; rw [hw7]; simp
  have M7 := Lib.hid (M6.out.below N7.out U6.out.2)
  have HW7 := Lib.hid hw7
  clear hw7
  have x0 := cell_of_row w7 _ 0 _ _ _ X7.out; have x1 := cell_of_row w7 _ 1 _ _ _ X7.out
  simp at x0 x1
  go_upto_region 7 with (fail)
  rw [← HW7.out]
  clear HW7
  go_wp2_with fail
  refine (IP.out _ _ M7.out).mono ?_
  rintro e9 w8 ⟨Ig, dg, Ag, cg, rfl, hoi, hog, hb⟩
  have G8 := Lib.hid hb
  have O8 := Lib.hid hog
  have P8 := Lib.hid hoi
  clear hb hog hoi x0 x1
  obtain ⟨w9, hw9⟩ : ∃ w9, w9 = w8.alloc (.cells #[.int .i64 rq, .slice Ig m2 dg, .int .i64 rb, .slice Ag m cg] 45) := ⟨_, rfl⟩
  have X9 : Hid (w9.heap[w8.heap.size]? = some (.cells #[.int .i64 rq, .slice Ig m2 dg, .int .i64 rb, .slice Ag m cg] 45 (0, 0))) := by show _ = _; rw [hw9]; exact heap_alloc_new w8 _
  have N9 : Hid (Below w8.heap.size w8 w9) := by rw [hw9]; exact below_new w8 _
  have RX := Lib.hid ((R7.out.trans (G8.out.mono R7.out.size)).trans (N9.out.mono (Nat.le_trans R7.out.size G8.out.size)))
  have Z9 : Hid (w9.heap.size = w8.heap.size + 1) := by show _ = _; rw [hw9]; simp
  have HW9 := Lib.hid hw9
  clear hw9
  have ORD := Lib.hid (show w1.heap.size ≤ u0 ∧ u0 < w4.heap.size ∧ w1.heap.size ≤ w4.heap.size ∧ w4.heap.size < w5.heap.size ∧ w5.heap.size ≤ u ∧ u < w6.heap.size ∧ w6.heap.size < w7.heap.size ∧ w7.heap.size ≤ w8.heap.size ∧ w8.heap.size < w9.heap.size by
    have := R2.out.size; have := U3.out; have := U4.out; have := R4.out.size; have := Z5.out; have := U6.out; have := Z7.out; have := G8.out.size; have := Z9.out; omega)
  have BW := Lib.hid (((N9.out.block w4.heap.size (by have := ORD.out; omega)).trans ((G8.out.block w4.heap.size (by have := ORD.out; omega)).trans ((N7.out.block w4.heap.size (by have := ORD.out; omega)).trans (G6.out.block w4.heap.size (by have := ORD.out; omega))))).trans X5.out)
  have XB := Lib.hid (((N9.out.block w6.heap.size (by have := ORD.out; omega)).trans (G8.out.block w6.heap.size (by have := ORD.out; omega))).trans X7.out)
  have XLT := Lib.hid (show w6.heap.size < w9.heap.size by have := ORD.out; omega)
  have XM9 := Lib.hid ((M7.out.below G8.out (by have := ORD.out; omega)).below N9.out (by have := ORD.out; omega))
  have XM := Lib.hid (XM9.out.sl.wide (Nat.zero_le _) (show u + 1 ≤ w9.heap.size by have := ORD.out; omega))
  have SW9 := Lib.hid (Sl.below (Sl.below (Sl.below (Sl.below SW5.out G6.out (by have := ORD.out; omega)) N7.out (by have := ORD.out; omega)) G8.out (by have := ORD.out; omega)) N9.out (by have := ORD.out; omega))
  have SV9 := Lib.hid (Sl.below (Sl.below (Sl.below (Sl.below SV5.out G6.out (by have := ORD.out; omega)) N7.out (by have := ORD.out; omega)) G8.out (by have := ORD.out; omega)) N9.out (by have := ORD.out; omega))
  obtain ⟨g, g2, hg, hg2, hne, hgm, hgn⟩ := two_rows5 (u := u) (v := u0) O8.out P8.out (by have := ORD.out; omega) (by have := ORD.out; omega) (by have := ORD.out; omega)
  have HG := Lib.hid hg; have HG2 := Lib.hid hg2; have NE := Lib.hid hne
  have MG9 := Lib.hid (hgm.below N9.out (by rcases hg with ⟨h, _⟩ | h <;> (have := ORD.out; omega)))
  have MH9 := Lib.hid (hgn.below N9.out (by rcases hg2 with ⟨h, _⟩ | h <;> (have := ORD.out; omega)))
  have GL := Lib.hid (show g < w9.heap.size ∧ g2 < w9.heap.size by have := ORD.out; omega)
  clear hg hg2 hne hgm hgn O8 P8 M7 X5 X7 SW5 SV5
  -- what stays: the boxes
  have QK : Hid (∀ W, Kept [u, g, g2] w9 W → (W.cell? ⟨w.heap.size, 0, none⟩ = some (.int .i64 b) ∧ W.cell? ⟨w.heap.size, 1, none⟩ = some (.slice A n c)) ∧ (W.cell? ⟨w4.heap.size, 0, none⟩ = some (.int .i64 rq) ∧ W.cell? ⟨w4.heap.size, 1, none⟩ = some (.slice Iw m2 dw) ∧ W.cell? ⟨w4.heap.size, 2, none⟩ = some (.int .i64 rb) ∧ W.cell? ⟨w4.heap.size, 3, none⟩ = some (.slice Aw m cw)) ∧ (W.cell? ⟨w6.heap.size, 0, none⟩ = some (.int .i64 b) ∧ W.cell? ⟨w6.heap.size, 1, none⟩ = some (.slice (some ⟨u, 0, none⟩) n n)) ∧ (W.cell? ⟨w8.heap.size, 0, none⟩ = some (.int .i64 rq) ∧ W.cell? ⟨w8.heap.size, 1, none⟩ = some (.slice Ig m2 dg) ∧ W.cell? ⟨w8.heap.size, 2, none⟩ = some (.int .i64 rb) ∧ W.cell? ⟨w8.heap.size, 3, none⟩ = some (.slice Ag m cg)) ∧ Sl W w3.heap.size w4.heap.size Aw (m * 3) (fun k => .int .i64 (gi (fl ys) k)) ∧ Sl W w3.heap.size w4.heap.size Iw m2 (fun k => .int .i64 (gi zs k))) := fun W hW => by
    have o := ORD.out
    have hgo := HG.out
    have hgp := HG2.out
    have z := Z1.out
    have u3 := U3.out
    have j1 := hW.2 w.heap.size (by omega) (by simp; omega)
    have j2 := (hW.2 w4.heap.size (by omega) (by simp; omega)).trans BW.out
    have j3 := (hW.2 w6.heap.size (by omega) (by simp; omega)).trans XB.out
    have j4 := (hW.2 w8.heap.size (by omega) (by simp; omega)).trans X9.out
    have k1 := QS.out w9 RX.out
    refine ⟨⟨(cell?_block j1 0).trans k1.1, (cell?_block j1 1).trans k1.2⟩, ⟨cell_of_row W _ 0 _ _ _ j2, cell_of_row W _ 1 _ _ _ j2, cell_of_row W _ 2 _ _ _ j2, cell_of_row W _ 3 _ _ _ j2⟩, ⟨cell_of_row W _ 0 _ _ _ j3, cell_of_row W _ 1 _ _ _ j3⟩, ⟨cell_of_row W _ 0 _ _ _ j4, cell_of_row W _ 1 _ _ _ j4, cell_of_row W _ 2 _ _ _ j4, cell_of_row W _ 3 _ _ _ j4⟩, Sl.kept SW9.out hW (fun b hb => ?_), Sl.kept SV9.out hW (fun b hb => ?_)⟩
    · simp at hb
      rcases hb with rfl | rfl | rfl <;> omega
    · simp at hb
      rcases hb with rfl | rfl | rfl <;> omega
  have FK : Hid (∀ W, Kept [u, g, g2] w9 W → Below w1.heap.size w1 W) := fun W hW => by
    have o := ORD.out
    have hgo := HG.out
    have hgp := HG2.out
    exact RX.out.trans (hW.below RX.out.size (fun b hb => by simp at hb; rcases hb with rfl | rfl | rfl <;> omega))
  have SMm := Lib.hid (show m ≤ 1048576 ∧ m2 ≤ 1048576 by have := HM.out; omega)
  have W3 := Lib.hid (show w4.heap.size ≤ w9.heap.size by have := ORD.out; omega)
  obtain ⟨⟨q0, q1⟩, ⟨p0, p1, p2, p3⟩, ⟨x0, x1⟩, ⟨y0, y1, y2, y3⟩, sw, sv⟩ := QK.out w9 (Kept.refl _ _)
  go_upto_region 8 with (fail)
  rw [← HW9.out]
  clear HW9
  go_wp2_with fail
  refine (eqPR_own Ag Aw Ig Iw m m2 cg cw dg dw rq rb (fl ys) zs _ SMm.out.1 SMm.out.2 (MG9.out.sl.wide (Nat.zero_le _) (by have := GL.out; omega)) (SW9.out.wide (Nat.zero_le _) W3.out) (MH9.out.sl.wide (Nat.zero_le _) (by have := GL.out; omega)) (SV9.out.wide (Nat.zero_le _) W3.out)).mono ?_
  rintro e9 wa ⟨rfl, hb⟩
  have KA := Lib.hid (Kept.of_below hb [u, g, g2])
  have RA := Lib.hid (RX.out.trans (hb.mono RX.out.size))
  have XBA := Lib.hid ((hb.block w6.heap.size XLT.out).trans XB.out)
  have XLTA := Lib.hid (Nat.lt_of_lt_of_le XLT.out hb.size)
  have XMA := Lib.hid ((XM.out.below hb (Nat.le_refl _)).wide (Nat.le_refl _) hb.size)
  have XM9A := Lib.hid (XM9.out.below hb (by have := ORD.out; omega))
  have MGA := Lib.hid (MG9.out.below hb GL.out.1)
  have MHA := Lib.hid (MH9.out.below hb GL.out.2)
  have SZA := Lib.hid hb.size
  clear hb q0 q1 p0 p1 p2 p3 x0 x1 y0 y1 y2 y3 sw sv XB XM XM9 XLT MG9 MH9 SW9 SV9
  have KT : Hid (∀ W, Below wa.heap.size wa W → (W.cell? ⟨w6.heap.size, 0, none⟩ = some (.int .i64 b) ∧ W.cell? ⟨w6.heap.size, 1, none⟩ = some (.slice (some ⟨u, 0, none⟩) n n)) ∧ (W.cell? ⟨w.heap.size, 0, none⟩ = some (.int .i64 b) ∧ W.cell? ⟨w.heap.size, 1, none⟩ = some (.slice A n c)) ∧ Below wa.heap.size wa W) := fun W hW => by
    have j := (hW.block w6.heap.size (XLTA.out)).trans XBA.out
    exact ⟨⟨cell_of_row W _ 0 _ _ _ j, cell_of_row W _ 1 _ _ _ j⟩, QS.out W (RA.out.trans (hW.mono RA.out.size)), hW⟩
  have PT : Hid (∀ W, ((W.cell? ⟨w6.heap.size, 0, none⟩ = some (.int .i64 b) ∧ W.cell? ⟨w6.heap.size, 1, none⟩ = some (.slice (some ⟨u, 0, none⟩) n n)) ∧ (W.cell? ⟨w.heap.size, 0, none⟩ = some (.int .i64 b) ∧ W.cell? ⟨w.heap.size, 1, none⟩ = some (.slice A n c)) ∧ Below wa.heap.size wa W) → Below wa.heap.size wa W) := fun W hh => hh.2.2
  have AK : Hid (∀ W, Below wa.heap.size wa W → Calls Try.prog 33 #[.agg #[.int .i64 b, .slice A n c]] W fun e w' => ∃ y, e = .returned (.agg #[.int .i64 b, .slice (some ⟨y, 0, none⟩) n n]) ∧ Sl w' 0 w'.heap.size (some ⟨y, 0, none⟩) (n * 3) (fun k => .int .i64 (gi (fl xs) k)) ∧ Below wa.heap.size wa w') := fun W hB =>
    (TK.out W (RA.out.trans (hB.mono RA.out.size)) H20.out).mono fun e w' ⟨y, he, hy, hm, hb⟩ => ⟨y, he, hm.sl.wide (by omega) (by omega), hB.trans (hb.mono hB.size)⟩
  have EK : Hid (∀ W y, Below wa.heap.size wa W → Sl W 0 W.heap.size (some ⟨y, 0, none⟩) (n * 3) (fun k => .int .i64 (gi (fl xs) k)) → Calls Try.prog 35 #[.agg #[.int .i64 b, .slice (some ⟨u, 0, none⟩) n n], .agg #[.int .i64 b, .slice (some ⟨y, 0, none⟩) n n]] W fun e w' => e = .returned (.bool true) ∧ Below wa.heap.size wa w') := fun W y hB hk =>
    (eqSched_same 0 wa.heap.size 0 W.heap.size _ _ n n n b (gi (fl xs)) W (by have := H20.out; omega) (XMA.out.below hB (Nat.le_refl _)) hk).mono fun e w' ⟨h1, h2⟩ => ⟨h1, hB.trans (h2.mono hB.size)⟩
  have R0 : Hid (Below wa.heap.size wa wa) := Below.refl _ _
  go_upto_region 10 with (fail)
  go_region_held3 (fun W => (W.cell? ⟨w6.heap.size, 0, none⟩ = some (.int .i64 b) ∧ W.cell? ⟨w6.heap.size, 1, none⟩ = some (.slice (some ⟨u, 0, none⟩) n n)) ∧ (W.cell? ⟨w.heap.size, 0, none⟩ = some (.int .i64 b) ∧ W.cell? ⟨w.heap.size, 1, none⟩ = some (.slice A n c)) ∧ Below wa.heap.size wa W) (first | with_reducible exact KT.out _ (by assumption) | exact KT.out _ (Below.drew (Below.refl _ _))) (first | (go_at_call 33; with_reducible refine (AK.out _ (PT.out _ (by assumption))).mono ?_; rintro e9 wa ⟨y, rfl, hkr, hba⟩) | (go_at_call 35; with_reducible refine (EK.out _ _ (PT.out _ (by assumption)) (by assumption)).mono ?_; rintro e9 wb ⟨rfl, hbb⟩))
  have KB := Lib.hid (Kept.trans KA.out (Kept.of_below hbb [u, g, g2]))
  have SZB := Lib.hid (Nat.le_trans SZA.out hbb.size)
  have XMB := Lib.hid (XM9A.out.below hbb (by have := ORD.out; have := SZA.out; omega))
  have MGB := Lib.hid (MGA.out.below hbb (by have := GL.out; have := SZA.out; omega))
  have MHB := Lib.hid (MHA.out.below hbb (by have := GL.out; have := SZA.out; omega))
  clear hba hkr hbb KT PT AK EK R0
  obtain ⟨⟨q0, q1⟩, ⟨p0, p1, p2, p3⟩, ⟨x0, x1⟩, ⟨y0, y1, y2, y3⟩, sw, sv⟩ := QK.out wb KB.out
  -- its list is marked
  go_wp2_with fail
  refine (markSched_any u _ n n 1 b (gi (fl xs)) _ H20.out (by omega) XMB.out (by have := ORD.out; have := SZB.out; omega)).mono ?_
  rintro e9 wc ⟨rfl, _, hk⟩
  have KC := Lib.hid (Kept.trans KB.out (hk.mono (gs' := [u, g, g2]) (fun b hb _ => by simp at hb; simp [hb])))
  have SZC := Lib.hid (Nat.le_trans SZB.out hk.1.size)
  have MGC : Hid (Mine wc g (g + 1) 70 Ag (m * 3) (fun k => .int .i64 (gi (fl ys) k))) := by
    rcases HG.out with ⟨_, h0⟩ | ⟨h1, h2⟩
    · exact .inl (by omega)
    · exact Mine.kept MGB.out hk (by simp; have := ORD.out; omega)
  have MHC : Hid (Mine wc g2 (g2 + 1) 2 Ig m2 (fun k => .int .i64 (gi zs k))) := by
    rcases HG2.out with ⟨_, h0⟩ | ⟨h1, h2⟩
    · exact .inl (by omega)
    · exact Mine.kept MHB.out hk (by simp; have := ORD.out; omega)
  obtain ⟨tk, htk⟩ : ∃ tk : Nat, tk = 1 + n * 3 := ⟨_, rfl⟩
  rw [← htk]
  have t0 : ((tk : Int) < 0) = False := by simp
  have t0' : ¬ ((tk : Int) < 0) := by omega
  clear htk hk q0 q1 p0 p1 p2 p3 x0 x1 y0 y1 y2 y3 sw sv XMB MGB MHB
  obtain ⟨⟨q0, q1⟩, ⟨p0, p1, p2, p3⟩, ⟨x0, x1⟩, ⟨y0, y1, y2, y3⟩, sw, sv⟩ := QK.out wc KC.out
  go_wp2_with fail
  refine (eqPR_own Ag Aw Ig Iw m m2 cg cw dg dw rq rb (fl ys) zs _ SMm.out.1 SMm.out.2 (MGC.out.sl.wide (Nat.zero_le _) (by have := GL.out; have := SZC.out; omega)) (sw.wide (Nat.zero_le _) (by have := W3.out; have := SZC.out; omega)) (MHC.out.sl.wide (Nat.zero_le _) (by have := GL.out; have := SZC.out; omega)) (sv.wide (Nat.zero_le _) (by have := W3.out; have := SZC.out; omega))).mono ?_
  rintro e9 wd ⟨rfl, hb⟩
  have KD := Lib.hid (KC.out.then_below hb)
  have SZD := Lib.hid (Nat.le_trans SZC.out hb.size)
  have MGD := Lib.hid (MGC.out.below hb (by have := GL.out; have := SZC.out; omega))
  have MHD := Lib.hid (MHC.out.below hb (by have := GL.out; have := SZC.out; omega))
  clear hb t0 t0' q0 q1 p0 p1 p2 p3 x0 x1 y0 y1 y2 y3 sw sv MGC MHC
  obtain ⟨⟨q0, q1⟩, ⟨p0, p1, p2, p3⟩, ⟨x0, x1⟩, ⟨y0, y1, y2, y3⟩, sw, sv⟩ := QK.out wd KD.out
  -- the answer's lists are marked
  go_wp2_with fail
  refine (markPR_own g g2 Ag Ig m m2 cg dg rq rb (fl ys) zs _ SMm.out.1 SMm.out.2 MGD.out (by have := GL.out; have := SZD.out; omega) MHD.out (by have := GL.out; have := SZD.out; omega) NE.out).mono ?_
  rintro e9 we ⟨rfl, hm', hm, hk⟩
  have KE := Lib.hid (Kept.trans KD.out (hk.mono (gs' := [u, g, g2]) (fun b hb _ => by simp at hb; rcases hb with rfl | rfl <;> simp)))
  have SZE := Lib.hid (Nat.le_trans SZD.out hk.1.size)
  have MK := Lib.hid hm
  have MK2 := Lib.hid hm'
  have GLE := Lib.hid (show g < we.heap.size ∧ g2 < we.heap.size by have := GL.out; have := SZE.out; omega)
  have HE : Hid (∀ W, Below we.heap.size we W → Calls Try.prog 38 #[.agg #[.int .i64 rq, .slice Ig m2 dg, .int .i64 rb, .slice Ag m cg], .int .i64 1] W fun e w' => e = .returned (.int .i64 ((1 + m2 + m * 3 : Nat) : Int)) ∧ Below we.heap.size we w') := fun W hW =>
    (heldPR_own g Ag Ig m m2 cg dg rq rb W SMm.out.1 SMm.out.2 (MK.out.below hW GLE.out.1) (by have := GLE.out; have := hW.size; omega) ((MK2.out.below hW GLE.out.2).sl.wide (Nat.zero_le _) (by have := GLE.out; have := hW.size; omega))).mono fun e w' ⟨h1, h2⟩ => ⟨h1, hW.trans (h2.mono hW.size)⟩
  obtain ⟨tot, ht⟩ : ∃ tot : Nat, tot = 1 + m2 + m * 3 := ⟨_, rfl⟩
  rw [← ht] at HE ⊢
  have t1 : ((tot : Int) < 0) = False := by simp
  have t1' : ¬ ((tot : Int) < 0) := by omega
  have t2 : ((tot : Int) != (tot : Int)) = false := by simp
  clear ht hm hm' hk q0 q1 p0 p1 p2 p3 x0 x1 y0 y1 y2 y3 sw sv MGD MHD
  obtain ⟨⟨q0, q1⟩, ⟨p0, p1, p2, p3⟩, ⟨x0, x1⟩, ⟨y0, y1, y2, y3⟩, sw, sv⟩ := QK.out we KE.out
  go_wp2_with fail
  refine (HE.out _ (Below.refl _ _)).mono ?_
  rintro e9 wf ⟨rfl, hb⟩
  have BF := Lib.hid hb
  have KF := Lib.hid (KE.out.then_below hb)
  have ZF := Lib.hid (show w9.heap.size ≤ wf.heap.size by have := SZE.out; have := hb.size; omega)
  clear hb q0 q1 p0 p1 p2 p3 x0 x1 y0 y1 y2 y3 sw sv
  obtain ⟨⟨q0, q1⟩, ⟨p0, p1, p2, p3⟩, ⟨x0, x1⟩, ⟨y0, y1, y2, y3⟩, sw, sv⟩ := QK.out wf KF.out
  -- once more
  go_wp2_with fail
  refine (TK.out _ (FK.out _ KF.out) H20.out).mono ?_
  rintro e9 wg ⟨v, rfl, hv, hm, hb⟩
  have BG := Lib.hid (BF.out.trans (hb.mono BF.out.size))
  have KG_ := Lib.hid (KF.out.then_below hb)
  have ZG := Lib.hid (show w9.heap.size ≤ wg.heap.size by have := ZF.out; have := hb.size; omega)
  have MV := Lib.hid hm
  clear hv hm hb q0 q1 p0 p1 p2 p3 x0 x1 y0 y1 y2 y3 sw sv
  go_wp2_with fail
  refine (IP.out _ _ MV.out).mono ?_
  rintro e9 wh ⟨Ih, dh, Ah, ch, rfl, hoj, hoh, hb⟩
  have SH := Lib.hid (OR.sl0 hoh)
  have SJ : Hid (Sl wh wg.heap.size wh.heap.size Ih m2 (fun k => .int .i64 (gi zs k))) := by have := OR.sl0 hoj; rw [Nat.mul_one] at this; exact this
  obtain ⟨wi, hwi⟩ : ∃ wi, wi = wh.alloc (.cells #[.int .i64 rq, .slice Ih m2 dh, .int .i64 rb, .slice Ah m ch] 45) := ⟨_, rfl⟩
  have XI : wi.heap[wh.heap.size]? = some (.cells #[.int .i64 rq, .slice Ih m2 dh, .int .i64 rb, .slice Ah m ch] 45 (0, 0)) := by rw [hwi]; exact heap_alloc_new wh _
  have NI : Below wh.heap.size wh wi := by rw [hwi]; exact below_new wh _
  have KI := Lib.hid ((KG_.out.then_below hb).then_below NI)
  have BI := Lib.hid ((BG.out.trans (hb.mono BG.out.size)).trans (NI.mono (Nat.le_trans BG.out.size hb.size)))
  have SI := Lib.hid ((Sl.below SH.out NI (Nat.le_refl _)).wide (Nat.zero_le _) NI.size)
  have SK := Lib.hid ((Sl.below SJ.out NI (Nat.le_refl _)).wide (Nat.zero_le _) NI.size)
  have SZI := Lib.hid (show w9.heap.size ≤ wi.heap.size by have := ZG.out; have := hb.size; have := NI.size; omega)
  have HWI := Lib.hid hwi
  have z0 := cell_of_row wi _ 0 _ _ _ XI; have z1 := cell_of_row wi _ 1 _ _ _ XI; have z2 := cell_of_row wi _ 2 _ _ _ XI; have z3 := cell_of_row wi _ 3 _ _ _ XI
  simp at z0 z1 z2 z3
  clear hoh hoj hb hwi XI NI SH SJ
  obtain ⟨⟨q0, q1⟩, ⟨p0, p1, p2, p3⟩, ⟨x0, x1⟩, ⟨y0, y1, y2, y3⟩, sw, sv⟩ := QK.out wi KI.out
  go_upto_region 25 with (fail)
  rw [← HWI.out]
  clear HWI
  go_wp2_with fail
  refine (eqPR_own Ah Aw Ih Iw m m2 ch cw dh dw rq rb (fl ys) zs _ SMm.out.1 SMm.out.2 (SI.out) (sw.wide (Nat.zero_le _) (by have := W3.out; have := SZI.out; omega)) (SK.out) (sv.wide (Nat.zero_le _) (by have := W3.out; have := SZI.out; omega))).mono ?_
  rintro e9 wj ⟨rfl, hb⟩
  have BJ := Lib.hid (BI.out.trans (hb.mono BI.out.size))
  have KJ := Lib.hid (KI.out.then_below hb)
  clear hb q0 q1 p0 p1 p2 p3 x0 x1 y0 y1 y2 y3 sw sv z0 z1 z2 z3
  obtain ⟨⟨q0, q1⟩, ⟨p0, p1, p2, p3⟩, ⟨x0, x1⟩, ⟨y0, y1, y2, y3⟩, sw, sv⟩ := QK.out wj KJ.out
  go_wp2_with fail
  refine (HE.out _ BJ.out).mono ?_
  rintro e9 wk ⟨rfl, hb⟩
  have FR := Lib.hid (FIN.out _ (FK.out _ (Kept.trans KE.out (Kept.of_below hb [u, g, g2]))))
  clear hb q0 q1 p0 p1 p2 p3 x0 x1 y0 y1 y2 y3 sw sv
  go_wp2
  go_ret
  exact ⟨rfl, FR.out⟩

end Go.Proofs.Ytmjcipjennjopaa
