/-
  The walk of FnExactWaitQueue: whatever came in, it returns true.
-/
import Derived.Test.YtfgllhomnmacfaaDoorKit6
import Derived.Test.YtfgllhomnmacfaaDoorKit6b
import Derived.Test.YtfgllhomnmacfaaDoorSpec6d
import Derived.Test.YtfgllhomnmacfaaDoorImpl6e
import Derived.Deep.RegionHeld3
namespace Go.Proofs.YtfgllhomnmacfaaDoor
open Go.RowKit
set_option maxRecDepth 100000

set_option maxHeartbeats 8000000 in
theorem walkWaitQueue (E : E6) (A : Option Addr) (n c : Nat) (xs : List Int) (id : Int) (w : World) (hE : Errs E w) (hl : xs.length = n) (h : Sl w 0 w.heap.size A n (fun k => .int .i64 (gi xs k))) :
    Calls Tryd.prog 9 #[.slice A n c, .int .i64 id] w fun e w' => e = .returned (.bool true) ∧ Below w.heap.size w w' := by
  have HL := Lib.hid hl
  have HS : Hid (Sl w 0 w.heap.size A n (fun k => .int .i64 (gi xs k))) := h
  have GE : Hid (∀ W, Below w.heap.size w W → Errs E W) := fun W hW => hE.below hW
  have TK : Hid (∀ W, Below w.heap.size w W → n ≤ 1048576 → Calls Tryd.prog 38 #[.slice A n c] W fun e w' => ∃ u, e = .returned (.slice (some ⟨u, 0, none⟩) n n) ∧ (W.heap.size ≤ u ∧ u < w'.heap.size) ∧ Mine w' u (u + 1) 2 (some ⟨u, 0, none⟩) n (fun k => .int .i64 (gi xs k)) ∧ Below W.heap.size W w') := fun W hW h20 =>
    (toInt64S_any 0 w.heap.size A n c (gi xs) W (by omega) (HS.out.below hW (Nat.le_refl _)) hW.size).mono fun e w' ⟨h1, h2, h3⟩ => ⟨W.heap.size, h1, ⟨Nat.le_refl _, h2.lt⟩, .inr ⟨W.heap.size, 0, rfl, Nat.le_refl _, Nat.lt_succ_self _, h2⟩, h3⟩
  clear h hl hE
  have R2 : Hid (Below w.heap.size w w) := Below.refl _ _
  by_cases hs : n ≤ 1048576
  rotate_left
  · have hs2 : (1048576 : Int) < n := by omega
    clear hs
    go_enter Tryd.func9, Tryd.ntmps9
    go_wp2
    go_ret
    exact ⟨rfl, R2.out⟩
  have z20 : ¬ ((1048576 : Int) < n) := by omega
  have H20 := Lib.hid hs
  clear hs
  obtain ⟨r6, hr6⟩ : ∃ r6, r6 = wait6 xs id := ⟨_, rfl⟩
  have SM := Lib.hid (show r6.2.2.2.2.1.length ≤ 1048577 ∧ r6.2.2.2.2.2.length ≤ 1048577 by have h20 := H20.out; have hl := HL.out; rw [hr6]; exact wait6_len xs id n h20 hl)
  have SP : Hid (∀ W u, Mine W u (u + 1) 2 (some ⟨u, 0, none⟩) n (fun k => .int .i64 (gi xs k)) → Calls Tryd.prog 31 #[.slice (some ⟨u, 0, none⟩) n n, .int .i64 id] W (LA r6 W)) := fun W u hm => by
    rw [hr6]
    exact specWaitQueue_any u (u + 1) _ n n xs id W H20.out (Nat.le_refl _) HL.out (by simp) hm.sl
  have IP : Hid (∀ W u, Below w.heap.size w W → Mine W u (u + 1) 2 (some ⟨u, 0, none⟩) n (fun k => .int .i64 (gi xs k)) → Calls Tryd.prog 28 #[.slice (some ⟨u, 0, none⟩) n n, .int .i64 id] W (LA r6 W)) := fun W u hW hm => by
    rw [hr6]
    exact implWaitQueue_any E u (u + 1) _ n n xs id W (GE.out W hW) H20.out (Nat.le_refl _) HL.out (by simp) hm.sl
  clear hr6
  obtain ⟨rq, rg, rn, ro, ys, zs⟩ := r6
  have SM : Hid (ys.length ≤ 1048577 ∧ zs.length ≤ 1048577) := SM.out
  obtain ⟨m, hm0⟩ : ∃ m, m = ys.length := ⟨_, rfl⟩
  obtain ⟨m2, hm2⟩ : ∃ m2, m2 = zs.length := ⟨_, rfl⟩
  have SP : Hid (∀ W u, Mine W u (u + 1) 2 (some ⟨u, 0, none⟩) n (fun k => .int .i64 (gi xs k)) → Calls Tryd.prog 31 #[.slice (some ⟨u, 0, none⟩) n n, .int .i64 id] W fun e w' => ∃ A c B d, e = .returned (.agg #[.int .i64 rq, .bool rg, .int .i64 rn, .int .i64 ro, .slice A m c, .slice B m2 d]) ∧ OR 2 1 w' W.heap.size A m c ys ∧ OR 2 1 w' W.heap.size B m2 d zs ∧ Apart A B ∧ Below W.heap.size W w') := by rw [hm0, hm2]; exact SP.out
  have IP : Hid (∀ W u, Below w.heap.size w W → Mine W u (u + 1) 2 (some ⟨u, 0, none⟩) n (fun k => .int .i64 (gi xs k)) → Calls Tryd.prog 28 #[.slice (some ⟨u, 0, none⟩) n n, .int .i64 id] W fun e w' => ∃ A c B d, e = .returned (.agg #[.int .i64 rq, .bool rg, .int .i64 rn, .int .i64 ro, .slice A m c, .slice B m2 d]) ∧ OR 2 1 w' W.heap.size A m c ys ∧ OR 2 1 w' W.heap.size B m2 d zs ∧ Apart A B ∧ Below W.heap.size W w') := by rw [hm0, hm2]; exact IP.out
  have HM := Lib.hid (show m ≤ 1048577 ∧ m2 ≤ 1048577 by rw [hm0, hm2]; exact SM.out)
  clear hm0 hm2 SM
  go_enter Tryd.func9, Tryd.ntmps9
  go_wp2_with fail
  refine (TK.out _ R2.out H20.out).mono ?_
  rintro e9 w3 ⟨u0, rfl, hu, hm, hb⟩
  have R3 := Lib.hid hb
  have M3 := Lib.hid hm
  have U3 := Lib.hid (show w.heap.size ≤ u0 ∧ u0 < w3.heap.size by omega)
  clear hu hm hb
  go_wp2_with fail
  refine (SP.out _ _ M3.out).mono ?_
  rintro e9 w4 ⟨Aw, cw, Bw, dw, rfl, how, hov, _, hb⟩
  have R4 := Lib.hid (R3.out.trans (hb.mono R3.out.size))
  have Z34 := Lib.hid hb.size
  have SW4 : Hid (Sl w4 w3.heap.size w4.heap.size Aw m (fun k => .int .i64 (gi ys k))) := by have := OR.sl0 how; rw [Nat.mul_one] at this; exact this
  have SV4 : Hid (Sl w4 w3.heap.size w4.heap.size Bw m2 (fun k => .int .i64 (gi zs k))) := by have := OR.sl0 hov; rw [Nat.mul_one] at this; exact this
  clear hb how hov M3 SP
  obtain ⟨w5, hw5⟩ : ∃ w5, w5 = w4.alloc (.cells #[.int .i64 rq, .bool rg, .int .i64 rn, .int .i64 ro, .slice Aw m cw, .slice Bw m2 dw] 30) := ⟨_, rfl⟩
  have X5 : Hid (w5.heap[w4.heap.size]? = some (.cells #[.int .i64 rq, .bool rg, .int .i64 rn, .int .i64 ro, .slice Aw m cw, .slice Bw m2 dw] 30 (0, 0))) := by show _ = _; rw [hw5]; exact heap_alloc_new w4 _
  have N5 : Hid (Below w4.heap.size w4 w5) := by rw [hw5]; exact below_new w4 _
  have R5 := Lib.hid (R4.out.trans (N5.out.mono R4.out.size))
  have Z5 : Hid (w5.heap.size = w4.heap.size + 1) := by show _ = _; rw [hw5]; simp
  have SW5 := Lib.hid (Sl.below SW4.out N5.out (Nat.le_refl _))
  have SV5 := Lib.hid (Sl.below SV4.out N5.out (Nat.le_refl _))
  have HW5 := Lib.hid hw5
  clear hw5 SW4 SV4
  go_upto_region 4 with (fail)
  rw [← HW5.out]
  clear HW5
  go_wp2_with fail
  refine (TK.out _ R5.out H20.out).mono ?_
  rintro e9 w7 ⟨u, rfl, hu, hm, hb⟩
  have R7 := Lib.hid (R5.out.trans (hb.mono R5.out.size))
  have M7 := Lib.hid hm
  have U6 := Lib.hid hu
  have G6 := Lib.hid hb
  clear hm hb hu
  go_wp2_with fail
  refine (IP.out _ _ R7.out M7.out).mono ?_
  rintro e9 w8 ⟨Ag, cg, Bg, dg, rfl, hog, hoh, hap, hb⟩
  have G8 := Lib.hid hb
  have O8 := Lib.hid hog
  have P8 := Lib.hid hoh
  have AP := Lib.hid hap
  clear hb hog hoh hap
  obtain ⟨w9, hw9⟩ : ∃ w9, w9 = w8.alloc (.cells #[.int .i64 rq, .bool rg, .int .i64 rn, .int .i64 ro, .slice Ag m cg, .slice Bg m2 dg] 30) := ⟨_, rfl⟩
  have X9 : Hid (w9.heap[w8.heap.size]? = some (.cells #[.int .i64 rq, .bool rg, .int .i64 rn, .int .i64 ro, .slice Ag m cg, .slice Bg m2 dg] 30 (0, 0))) := by show _ = _; rw [hw9]; exact heap_alloc_new w8 _
  have N9 : Hid (Below w8.heap.size w8 w9) := by rw [hw9]; exact below_new w8 _
  have RX := Lib.hid ((R7.out.trans (G8.out.mono R7.out.size)).trans (N9.out.mono (Nat.le_trans R7.out.size G8.out.size)))
  have Z9 : Hid (w9.heap.size = w8.heap.size + 1) := by show _ = _; rw [hw9]; simp
  have HW9 := Lib.hid hw9
  clear hw9
  have ORD := Lib.hid (show w.heap.size ≤ u0 ∧ u0 < w3.heap.size ∧ w3.heap.size ≤ w4.heap.size ∧ w4.heap.size < w5.heap.size ∧ w5.heap.size ≤ u ∧ u < w7.heap.size ∧ w7.heap.size ≤ w8.heap.size ∧ w8.heap.size < w9.heap.size by
    have := U3.out; have := Z34.out; have := Z5.out; have := U6.out; have := G8.out.size; have := Z9.out; omega)
  have BW := Lib.hid (((N9.out.block w4.heap.size (by have := ORD.out; omega)).trans ((G8.out.block w4.heap.size (by have := ORD.out; omega)).trans (G6.out.block w4.heap.size (by have := ORD.out; omega)))).trans X5.out)
  have XM9 := Lib.hid ((M7.out.below G8.out (by have := ORD.out; omega)).below N9.out (by have := ORD.out; omega))
  have XM := Lib.hid (XM9.out.sl.wide (Nat.zero_le _) (show u + 1 ≤ w9.heap.size by have := ORD.out; omega))
  have SW9 := Lib.hid (Sl.below (Sl.below (Sl.below SW5.out G6.out (by have := ORD.out; omega)) G8.out (by have := ORD.out; omega)) N9.out (by have := ORD.out; omega))
  have SV9 := Lib.hid (Sl.below (Sl.below (Sl.below SV5.out G6.out (by have := ORD.out; omega)) G8.out (by have := ORD.out; omega)) N9.out (by have := ORD.out; omega))
  obtain ⟨g, g2, hg, hg2, hne, hgm, hgn⟩ := two_rows (u := u) (v := u0) O8.out P8.out AP.out (by have := ORD.out; omega) (by have := ORD.out; omega) (by have := ORD.out; omega)
  have HG := Lib.hid hg; have HG2 := Lib.hid hg2; have NE := Lib.hid hne
  have MG9 := Lib.hid (hgm.below N9.out (by rcases hg with ⟨h, _⟩ | h <;> (have := ORD.out; omega)))
  have MH9 := Lib.hid (hgn.below N9.out (by rcases hg2 with ⟨h, _⟩ | h <;> (have := ORD.out; omega)))
  have GL := Lib.hid (show g < w9.heap.size ∧ g2 < w9.heap.size by have := ORD.out; omega)
  clear hg hg2 hne hgm hgn O8 P8 M7 X5 SW5 SV5
  -- what stays: the boxes
  have QK : Hid (∀ W, Kept [u, g, g2] w9 W → (W.cell? ⟨w4.heap.size, 0, none⟩ = some (.int .i64 rq) ∧ W.cell? ⟨w4.heap.size, 1, none⟩ = some (.bool rg) ∧ W.cell? ⟨w4.heap.size, 2, none⟩ = some (.int .i64 rn) ∧ W.cell? ⟨w4.heap.size, 3, none⟩ = some (.int .i64 ro) ∧ W.cell? ⟨w4.heap.size, 4, none⟩ = some (.slice Aw m cw) ∧ W.cell? ⟨w4.heap.size, 5, none⟩ = some (.slice Bw m2 dw)) ∧ (W.cell? ⟨w8.heap.size, 0, none⟩ = some (.int .i64 rq) ∧ W.cell? ⟨w8.heap.size, 1, none⟩ = some (.bool rg) ∧ W.cell? ⟨w8.heap.size, 2, none⟩ = some (.int .i64 rn) ∧ W.cell? ⟨w8.heap.size, 3, none⟩ = some (.int .i64 ro) ∧ W.cell? ⟨w8.heap.size, 4, none⟩ = some (.slice Ag m cg) ∧ W.cell? ⟨w8.heap.size, 5, none⟩ = some (.slice Bg m2 dg)) ∧ Sl W w3.heap.size w4.heap.size Aw m (fun k => .int .i64 (gi ys k)) ∧ Sl W w3.heap.size w4.heap.size Bw m2 (fun k => .int .i64 (gi zs k))) := fun W hW => by
    have o := ORD.out
    have hgo := HG.out
    have hgp := HG2.out
    have j2 := (hW.2 w4.heap.size (by omega) (by simp; omega)).trans BW.out
    have j4 := (hW.2 w8.heap.size (by omega) (by simp; omega)).trans X9.out
    refine ⟨⟨cell_of_row W _ 0 _ _ _ j2, cell_of_row W _ 1 _ _ _ j2, cell_of_row W _ 2 _ _ _ j2, cell_of_row W _ 3 _ _ _ j2, cell_of_row W _ 4 _ _ _ j2, cell_of_row W _ 5 _ _ _ j2⟩, ⟨cell_of_row W _ 0 _ _ _ j4, cell_of_row W _ 1 _ _ _ j4, cell_of_row W _ 2 _ _ _ j4, cell_of_row W _ 3 _ _ _ j4, cell_of_row W _ 4 _ _ _ j4, cell_of_row W _ 5 _ _ _ j4⟩, Sl.kept SW9.out hW (fun b hb => ?_), Sl.kept SV9.out hW (fun b hb => ?_)⟩
    · simp at hb
      rcases hb with rfl | rfl | rfl <;> omega
    · simp at hb
      rcases hb with rfl | rfl | rfl <;> omega
  have FK : Hid (∀ W, Kept [u, g, g2] w9 W → Below w.heap.size w W) := fun W hW => by
    have o := ORD.out
    have hgo := HG.out
    have hgp := HG2.out
    exact RX.out.trans (hW.below RX.out.size (fun b hb => by simp at hb; rcases hb with rfl | rfl | rfl <;> omega))
  have SMm := Lib.hid (show m ≤ 2000000 ∧ m2 ≤ 2000000 by have := HM.out; omega)
  have W3 := Lib.hid (show w3.heap.size ≤ w9.heap.size ∧ w4.heap.size ≤ w9.heap.size by have := ORD.out; omega)
  obtain ⟨⟨p0, p1, p2, p3, p4, p5⟩, ⟨y0, y1, y2, y3, y4, y5⟩, sw, sv⟩ := QK.out w9 (Kept.refl _ _)
  go_upto_region 6 with (fail)
  rw [← HW9.out]
  clear HW9
  go_wp2_with fail
  refine (eqLR_own Ag Aw Bg Bw m m2 cg cw dg dw rq rn ro rg ys zs _ SMm.out.1 SMm.out.2 (MG9.out.sl.wide (Nat.zero_le _) (by have := GL.out; omega)) (SW9.out.wide (Nat.zero_le _) W3.out.2) (MH9.out.sl.wide (Nat.zero_le _) (by have := GL.out; omega)) (SV9.out.wide (Nat.zero_le _) W3.out.2)).mono ?_
  rintro e9 wa ⟨rfl, hb⟩
  have KA := Lib.hid (Kept.of_below hb [u, g, g2])
  have RA := Lib.hid (RX.out.trans (hb.mono RX.out.size))
  have XMA := Lib.hid ((XM.out.below hb (Nat.le_refl _)).wide (Nat.le_refl _) hb.size)
  have XM9A := Lib.hid (XM9.out.below hb (by have := ORD.out; omega))
  have MGA := Lib.hid (MG9.out.below hb GL.out.1)
  have MHA := Lib.hid (MH9.out.below hb GL.out.2)
  have SZA := Lib.hid hb.size
  clear hb p0 p1 p2 p3 p4 p5 y0 y1 y2 y3 y4 y5 sw sv XM XM9 MG9 MH9 SW9 SV9
  have AK : Hid (Calls Tryd.prog 38 #[.slice A n c] wa fun e w' => ∃ y, e = .returned (.slice (some ⟨y, 0, none⟩) n n) ∧ Sl w' 0 w'.heap.size (some ⟨y, 0, none⟩) n (fun k => .int .i64 (gi xs k)) ∧ Below wa.heap.size wa w') :=
    (TK.out _ RA.out H20.out).mono fun e w' ⟨y, he, hy, hm, hb⟩ => ⟨y, he, hm.sl.wide (by omega) (by omega), hb⟩
  go_wp2_with fail
  refine AK.out.mono ?_
  rintro e9 wa' ⟨y, rfl, hkr, hba⟩
  have KR1 := Lib.hid hkr
  have BA1 := Lib.hid hba
  clear hkr hba
  go_wp2_with fail
  refine (eqInt64S_same 0 wa.heap.size 0 wa'.heap.size _ _ n n n (gi xs) _ (by have := H20.out; omega) (XMA.out.below BA1.out (Nat.le_refl _)) KR1.out).mono ?_
  rintro e9 wb ⟨rfl, hb0⟩
  have hbb := BA1.out.trans (hb0.mono BA1.out.size)
  have KB := Lib.hid (Kept.trans KA.out (Kept.of_below hbb [u, g, g2]))
  have SZB := Lib.hid (Nat.le_trans SZA.out hbb.size)
  have XMB := Lib.hid (XM9A.out.below hbb (by have := ORD.out; have := SZA.out; omega))
  have MGB := Lib.hid (MGA.out.below hbb (by have := GL.out; have := SZA.out; omega))
  have MHB := Lib.hid (MHA.out.below hbb (by have := GL.out; have := SZA.out; omega))
  clear hbb hb0 AK KR1 BA1
  obtain ⟨⟨p0, p1, p2, p3, p4, p5⟩, ⟨y0, y1, y2, y3, y4, y5⟩, sw, sv⟩ := QK.out wb KB.out
  -- its list is marked
  go_wp2_with fail
  refine (markInt64S_any u (u + 1) _ n n _ 1 _ (by have := H20.out; omega) (by omega) (fun k _ => ⟨_, rfl⟩) XMB.out).mono ?_
  rintro e9 wc ⟨rfl, _, hk0⟩
  have hk := Kept.of_only6 hk0
  have KC := Lib.hid (Kept.trans KB.out (hk.mono (gs' := [u, g, g2]) (fun b hb _ => by simp at hb; simp [hb])))
  have SZC := Lib.hid (Nat.le_trans SZB.out hk.1.size)
  have MGC : Hid (Mine wc g (g + 1) 2 Ag m (fun k => .int .i64 (gi ys k))) := by
    rcases HG.out with ⟨_, h0⟩ | ⟨h1, h2⟩
    · exact .inl (by omega)
    · exact Mine.kept MGB.out hk (by simp; have := ORD.out; omega)
  have MHC : Hid (Mine wc g2 (g2 + 1) 2 Bg m2 (fun k => .int .i64 (gi zs k))) := by
    rcases HG2.out with ⟨_, h0⟩ | ⟨h1, h2⟩
    · exact .inl (by omega)
    · exact Mine.kept MHB.out hk (by simp; have := ORD.out; omega)
  obtain ⟨tk, htk⟩ : ∃ tk : Nat, tk = 1 + n := ⟨_, rfl⟩
  rw [← htk]
  have t0 : ((tk : Int) < 0) = False := by simp
  have t0' : ¬ ((tk : Int) < 0) := by omega
  clear htk hk hk0 p0 p1 p2 p3 p4 p5 y0 y1 y2 y3 y4 y5 sw sv XMB MGB MHB
  obtain ⟨⟨p0, p1, p2, p3, p4, p5⟩, ⟨y0, y1, y2, y3, y4, y5⟩, sw, sv⟩ := QK.out wc KC.out
  go_wp2_with fail
  refine (eqLR_own Ag Aw Bg Bw m m2 cg cw dg dw rq rn ro rg ys zs _ SMm.out.1 SMm.out.2 (MGC.out.sl.wide (Nat.zero_le _) (by have := GL.out; have := SZC.out; omega)) (sw.wide (Nat.zero_le _) (by have := W3.out; have := SZC.out; omega)) (MHC.out.sl.wide (Nat.zero_le _) (by have := GL.out; have := SZC.out; omega)) (sv.wide (Nat.zero_le _) (by have := W3.out; have := SZC.out; omega))).mono ?_
  rintro e9 wd ⟨rfl, hb⟩
  have KD := Lib.hid (KC.out.then_below hb)
  have SZD := Lib.hid (Nat.le_trans SZC.out hb.size)
  have MGD := Lib.hid (MGC.out.below hb (by have := GL.out; have := SZC.out; omega))
  have MHD := Lib.hid (MHC.out.below hb (by have := GL.out; have := SZC.out; omega))
  clear hb t0 t0' p0 p1 p2 p3 p4 p5 y0 y1 y2 y3 y4 y5 sw sv MGC MHC
  obtain ⟨⟨p0, p1, p2, p3, p4, p5⟩, ⟨y0, y1, y2, y3, y4, y5⟩, sw, sv⟩ := QK.out wd KD.out
  -- the answer's lists are marked
  go_wp2_with fail
  refine (markLR_own g g2 Ag Bg m m2 cg dg rq rn ro rg ys zs _ SMm.out.1 SMm.out.2 MGD.out (by have := GL.out; have := SZD.out; omega) MHD.out (by have := GL.out; have := SZD.out; omega) NE.out).mono ?_
  rintro e9 we ⟨rfl, hm, hm', hk⟩
  have KE := Lib.hid (Kept.trans KD.out (hk.mono (gs' := [u, g, g2]) (fun b hb _ => by simp at hb; rcases hb with rfl | rfl <;> simp)))
  have SZE := Lib.hid (Nat.le_trans SZD.out hk.1.size)
  have MK := Lib.hid hm
  have MK2 := Lib.hid hm'
  have GLE := Lib.hid (show g < we.heap.size ∧ g2 < we.heap.size by have := GL.out; have := SZE.out; omega)
  have HE : Hid (∀ W, Below we.heap.size we W → Calls Tryd.prog 43 #[.agg #[.int .i64 rq, .bool rg, .int .i64 rn, .int .i64 ro, .slice Ag m cg, .slice Bg m2 dg], .int .i64 1] W fun e w' => e = .returned (.int .i64 ((1 + m + m2 : Nat) : Int)) ∧ Below we.heap.size we w') := fun W hW =>
    (heldLR_own Ag Bg m m2 cg dg rq rn ro rg W SMm.out.1 SMm.out.2 ((MK.out.below hW GLE.out.1).sl.wide (Nat.zero_le _) (by have := GLE.out; have := hW.size; omega)) ((MK2.out.below hW GLE.out.2).sl.wide (Nat.zero_le _) (by have := GLE.out; have := hW.size; omega))).mono fun e w' ⟨h1, h2⟩ => ⟨h1, hW.trans (h2.mono hW.size)⟩
  obtain ⟨tot, ht⟩ : ∃ tot : Nat, tot = 1 + m + m2 := ⟨_, rfl⟩
  rw [← ht] at HE ⊢
  have t1 : ((tot : Int) < 0) = False := by simp
  have t1' : ¬ ((tot : Int) < 0) := by omega
  have t2 : ((tot : Int) != (tot : Int)) = false := by simp
  clear ht hm hm' hk p0 p1 p2 p3 p4 p5 y0 y1 y2 y3 y4 y5 sw sv MGD MHD
  obtain ⟨⟨p0, p1, p2, p3, p4, p5⟩, ⟨y0, y1, y2, y3, y4, y5⟩, sw, sv⟩ := QK.out we KE.out
  go_wp2_with fail
  refine (HE.out _ (Below.refl _ _)).mono ?_
  rintro e9 wf ⟨rfl, hb⟩
  have BF := Lib.hid hb
  have KF := Lib.hid (KE.out.then_below hb)
  clear hb p0 p1 p2 p3 p4 p5 y0 y1 y2 y3 y4 y5 sw sv
  -- once more
  go_wp2_with fail
  refine (TK.out _ (FK.out _ KF.out) H20.out).mono ?_
  rintro e9 wg ⟨v, rfl, hv, hm, hb⟩
  have BG := Lib.hid (BF.out.trans (hb.mono BF.out.size))
  have KG := Lib.hid (KF.out.then_below hb)
  have MV := Lib.hid hm
  clear hv hm hb
  go_wp2_with fail
  refine (IP.out _ _ (FK.out _ KG.out) MV.out).mono ?_
  rintro e9 wh ⟨Ah, ch, Bh, dh, rfl, hoh, hoj, _, hb⟩
  have SH : Hid (Sl wh wg.heap.size wh.heap.size Ah m (fun k => .int .i64 (gi ys k))) := by have := OR.sl0 hoh; rw [Nat.mul_one] at this; exact this
  have SJ : Hid (Sl wh wg.heap.size wh.heap.size Bh m2 (fun k => .int .i64 (gi zs k))) := by have := OR.sl0 hoj; rw [Nat.mul_one] at this; exact this
  obtain ⟨wi, hwi⟩ : ∃ wi, wi = wh.alloc (.cells #[.int .i64 rq, .bool rg, .int .i64 rn, .int .i64 ro, .slice Ah m ch, .slice Bh m2 dh] 30) := ⟨_, rfl⟩
  have XI : wi.heap[wh.heap.size]? = some (.cells #[.int .i64 rq, .bool rg, .int .i64 rn, .int .i64 ro, .slice Ah m ch, .slice Bh m2 dh] 30 (0, 0)) := by rw [hwi]; exact heap_alloc_new wh _
  have NI : Below wh.heap.size wh wi := by rw [hwi]; exact below_new wh _
  have KI := Lib.hid ((KG.out.then_below hb).then_below NI)
  have BI := Lib.hid ((BG.out.trans (hb.mono BG.out.size)).trans (NI.mono (Nat.le_trans BG.out.size hb.size)))
  have SI := Lib.hid ((Sl.below SH.out NI (Nat.le_refl _)).wide (Nat.zero_le _) NI.size)
  have SK := Lib.hid ((Sl.below SJ.out NI (Nat.le_refl _)).wide (Nat.zero_le _) NI.size)
  have SZI := Lib.hid (show w9.heap.size ≤ wi.heap.size by have := SZE.out; have := BI.out.size; omega)
  have HWI := Lib.hid hwi
  have z0 := cell_of_row wi _ 0 _ _ _ XI; have z1 := cell_of_row wi _ 1 _ _ _ XI; have z2 := cell_of_row wi _ 2 _ _ _ XI; have z3 := cell_of_row wi _ 3 _ _ _ XI; have z4 := cell_of_row wi _ 4 _ _ _ XI; have z5 := cell_of_row wi _ 5 _ _ _ XI
  simp at z0 z1 z2 z3 z4 z5
  clear hoh hoj hb hwi XI NI SH SJ
  obtain ⟨⟨p0, p1, p2, p3, p4, p5⟩, ⟨y0, y1, y2, y3, y4, y5⟩, sw, sv⟩ := QK.out wi KI.out
  go_upto_region 23 with (fail)
  rw [← HWI.out]
  clear HWI
  go_wp2_with fail
  refine (eqLR_own Ah Aw Bh Bw m m2 ch cw dh dw rq rn ro rg ys zs _ SMm.out.1 SMm.out.2 SI.out (sw.wide (Nat.zero_le _) (by have := W3.out; have := SZI.out; omega)) SK.out (sv.wide (Nat.zero_le _) (by have := W3.out; have := SZI.out; omega))).mono ?_
  rintro e9 wj ⟨rfl, hb⟩
  have BJ := Lib.hid (BI.out.trans (hb.mono BI.out.size))
  have KJ := Lib.hid (KI.out.then_below hb)
  clear hb p0 p1 p2 p3 p4 p5 y0 y1 y2 y3 y4 y5 sw sv z0 z1 z2 z3 z4 z5
  obtain ⟨⟨p0, p1, p2, p3, p4, p5⟩, ⟨y0, y1, y2, y3, y4, y5⟩, sw, sv⟩ := QK.out wj KJ.out
  go_wp2_with fail
  refine (HE.out _ BJ.out).mono ?_
  rintro e9 wk ⟨rfl, hb⟩
  have FR := Lib.hid (FK.out _ (Kept.trans KE.out (Kept.of_below hb [u, g, g2])))
  clear hb p0 p1 p2 p3 p4 p5 y0 y1 y2 y3 y4 y5 sw sv
  go_wp2
  go_ret
  exact ⟨rfl, FR.out⟩

end Go.Proofs.YtfgllhomnmacfaaDoor
