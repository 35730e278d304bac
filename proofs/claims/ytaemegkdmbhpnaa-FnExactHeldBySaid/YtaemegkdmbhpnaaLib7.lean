/-
  The law's helpers on libraries: size, copy, compare. No conditions beyond that their lists can be read.
-/
import Derived.Test.YtaemegkdmbhpnaaKit5
import Derived.Test.YtaemegkdmbhpnaaLl7
import Derived.Test.YtaemegkdmbhpnaaCl7
namespace Go.Proofs.Ytaemegkdmbhpnaa
open Go.RowKit
set_option maxRecDepth 100000

/-- a library that can be read: its four lists -/
structure LR (W : World) (lo hi : Nat) (R : Option Addr) (rn : Nat) (rx : Nat → Int) (T : Option Addr) (tn : Nat) (tx : Nat → Int) (L : Option Addr) (ln : Nat) (lo7 : Nat → Int) (lB : Nat → Option Addr) (lm ld : Nat → Nat) (lx : Nat → Nat → Int) (C : Option Addr) (cn : Nat) (cB : Nat → Option Addr) (cm cd : Nat → Nat) (cx : Nat → Nat → Int) : Prop where
  r : Sl W lo hi R (rn * 3) (fun k => .int .i64 (rx k))
  t : Sl W lo hi T (tn * 5) (fun k => .int .i64 (tx k))
  l : LL W lo hi L ln lo7 lB lm ld lx
  c : CL W lo hi C cn cB cm cd cx
/-- all blocks but one are as they were -/
def Far (X : Nat) (W W' : World) : Prop := W.heap.size ≤ W'.heap.size ∧ ∀ b, b < W.heap.size → b ≠ X → W'.heap[b]? = W.heap[b]?
theorem Far.below {X : Nat} {W W' : World} (h : Below W.heap.size W W') : Far X W W' := ⟨h.size, fun b hb _ => h.block b hb⟩
theorem Far.set (X : Nat) (W : World) (j : Nat) (v : Value) : Far X W (W.setCell ⟨X, j, none⟩ v) := ⟨by simp, fun b _ hb => Below.heap_setCell _ _ _ _ hb⟩
theorem Far.trans {X : Nat} {a b c : World} (h : Far X a b) (k : Far X b c) : Far X a c := ⟨Nat.le_trans h.1 k.1, fun d hd hx => (k.2 d (Nat.lt_of_lt_of_le hd h.1) hx).trans (h.2 d hd hx)⟩
theorem Sl.farX {X : Nat} {W W' : World} {lo hi n : Nat} {A : Option Addr} {f : Nat → Value} (h : Sl W lo hi A n f) (k : Far X W W') (hX : X < lo) (hh : hi ≤ W.heap.size) : Sl W' lo hi A n f := h.keep fun b h1 h2 => k.2 b (by omega) (by omega)
section
variable {X : Nat} {W W' : World} {lo hi n : Nat} {A : Option Addr} {t : Nat → Int} {B : Nat → Option Addr} {m d : Nat → Nat} {x : Nat → Nat → Int}
theorem LL.farX (h : LL W lo hi A n t B m d x) (k : Far X W W') (hX : X < lo) (hh : hi ≤ W.heap.size) : LL W' lo hi A n t B m d x := ⟨h.row.farX k hX hh, fun i hi => (h.qs i hi).farX k hX hh⟩
theorem CL.farX (h : CL W lo hi A n B m d x) (k : Far X W W') (hX : X < lo) (hh : hi ≤ W.heap.size) : CL W' lo hi A n B m d x := ⟨h.row.farX k hX hh, fun i hi => (h.qs i hi).farX k hX hh⟩
end
section
variable {X : Nat} {W W' : World} {lo hi lo' hi' : Nat} {R : Option Addr} {rn : Nat} {rx : Nat → Int} {T : Option Addr} {tn : Nat} {tx : Nat → Int} {L : Option Addr} {ln : Nat} {lo7 : Nat → Int} {lB : Nat → Option Addr} {lm ld : Nat → Nat} {lx : Nat → Nat → Int} {C : Option Addr} {cn : Nat} {cB : Nat → Option Addr} {cm cd : Nat → Nat} {cx : Nat → Nat → Int}
theorem LR.below (h : LR W lo hi R rn rx T tn tx L ln lo7 lB lm ld lx C cn cB cm cd cx) {b : Nat} (hb : Below b W W') (hB : hi ≤ b) : LR W' lo hi R rn rx T tn tx L ln lo7 lB lm ld lx C cn cB cm cd cx := ⟨h.r.below hb hB, h.t.below hb hB, h.l.below hb hB, h.c.below hb hB⟩
theorem LR.wide (h : LR W lo hi R rn rx T tn tx L ln lo7 lB lm ld lx C cn cB cm cd cx) (h1 : lo' ≤ lo) (h2 : hi ≤ hi') : LR W lo' hi' R rn rx T tn tx L ln lo7 lB lm ld lx C cn cB cm cd cx := ⟨h.r.wide h1 h2, h.t.wide h1 h2, h.l.wide h1 h2, h.c.wide h1 h2⟩
theorem LR.lt (h : LR W lo hi R rn rx T tn tx L ln lo7 lB lm ld lx C cn cB cm cd cx) : LR W lo (min hi W.heap.size) R rn rx T tn tx L ln lo7 lB lm ld lx C cn cB cm cd cx := ⟨h.r.lt, h.t.lt, h.l.lt, h.c.lt⟩
theorem LR.farX (h : LR W lo hi R rn rx T tn tx L ln lo7 lB lm ld lx C cn cB cm cd cx) (k : Far X W W') (hX : X < lo) (hh : hi ≤ W.heap.size) : LR W' lo hi R rn rx T tn tx L ln lo7 lB lm ld lx C cn cB cm cd cx := ⟨h.r.farX k hX hh, h.t.farX k hX hh, h.l.farX k hX hh, h.c.farX k hX hh⟩
end

theorem szSched7_any (t : Int) (A : Option Addr) (n c : Nat) (L : Int) (w : World) (hn : n ≤ 9223372036854775807) (h0 : 0 ≤ L ∧ L ≤ 1048576) :
    Calls Try.prog 82 #[.agg #[.int .i64 t, .slice A n c], .int .i64 L] w fun e w' => e = .returned (.int .i64 (if (n : Int) ≤ L then L - (n : Int) else -1)) ∧ Below w.heap.size w w' := by
  have B1 : Hid (∀ o, Below w.heap.size w (w.alloc o)) := fun o => (Below.refl _ _).alloc (Nat.le_refl _) o
  have SZ := Lib.hid (szReadyS7_any A n c L)
  obtain ⟨v, hv⟩ : ∃ v, v = (if (n : Int) ≤ L then L - (n : Int) else -1) := ⟨_, rfl⟩
  rw [← hv] at SZ ⊢
  have HN := Lib.hid hn
  have H0 := Lib.hid h0
  by_cases h : v < 0
  · have hv1 : v = -1 := by
      by_cases hh : (n : Int) ≤ L
      · rw [if_pos hh] at hv; omega
      · rw [if_neg hh] at hv; exact hv
    subst hv1
    clear hv hn h0 h
    go_enter Try.func82, Try.ntmps82
    go_wp2_with fail
    refine (SZ.out _ HN.out H0.out).mono ?_
    rintro e w' ⟨rfl, rfl⟩
    go_wp2
    go_ret
    exact ⟨rfl, B1.out _⟩
  · clear hv hn h0
    go_enter Try.func82, Try.ntmps82
    go_wp2_with fail
    refine (SZ.out _ HN.out H0.out).mono ?_
    rintro e w' ⟨rfl, rfl⟩
    go_wp2
    go_ret
    exact ⟨rfl, B1.out _⟩


set_option maxHeartbeats 2000000 in
theorem szLib_any (lo hi : Nat) (b : Int) (rc tc lc cc : Nat) (R : Option Addr) (rn : Nat) (rx : Nat → Int) (T : Option Addr) (tn : Nat) (tx : Nat → Int) (L : Option Addr) (ln : Nat) (lo7 : Nat → Int) (lB : Nat → Option Addr) (lm ld : Nat → Nat) (lx : Nat → Nat → Int) (C : Option Addr) (cn : Nat) (cB : Nat → Option Addr) (cm cd : Nat → Nat) (cx : Nat → Nat → Int) (L0 : Int) (w : World) (h0 : 0 ≤ L0 ∧ L0 ≤ 1048576) (hr : rn ≤ 9223372036854775807) (ht : tn ≤ 9223372036854775807) (hl : ln ≤ 9223372036854775807) (hlm : ∀ i, i < ln → lm i ≤ 9223372036854775807) (hc : cn ≤ 9223372036854775807) (hcm : ∀ i, i < cn → cm i ≤ 9223372036854775807) (h : LR w lo hi R rn rx T tn tx L ln lo7 lB lm ld lx C cn cB cm cd cx) :
    Calls Try.prog 15 #[.agg #[.int .i64 b, .slice R rn rc, .slice T tn tc, .slice L ln lc, .slice C cn cc], .int .i64 L0] w fun e w' => ∃ v : Int, e = .returned (.int .i64 v) ∧ (v = -1 ∨ (0 ≤ v ∧ v ≤ 1048576 ∧ rn ≤ 1048576 ∧ tn ≤ 1048576 ∧ (ln ≤ 1048576 ∧ ∀ i, i < ln → lm i ≤ 1048576) ∧ (cn ≤ 1048576 ∧ ∀ i, i < cn → cm i ≤ 1048576))) ∧ Below w.heap.size w w' := by
  obtain ⟨w1, hw1⟩ : ∃ w1, w1 = w.alloc (.cells #[.int .i64 b, .slice R rn rc, .slice T tn tc, .slice L ln lc, .slice C cn cc] 45) := ⟨_, rfl⟩
  have k1 : w1.heap[w.heap.size]? = some (.cells #[.int .i64 b, .slice R rn rc, .slice T tn tc, .slice L ln lc, .slice C cn cc] 45 (0, 0)) := by rw [hw1]; exact heap_alloc_new w _
  have B1 : Hid (Below w.heap.size w w1) := by rw [hw1]; exact below_new w _
  have Z1 : Hid (w1.heap.size = w.heap.size + 1) := by show _ = _; rw [hw1]; simp
  have KS : Hid (∀ W, Below w1.heap.size w1 W → W.cell? ⟨w.heap.size, 0, none⟩ = some (.int .i64 b) ∧ W.cell? ⟨w.heap.size, 1, none⟩ = some (.slice R rn rc) ∧ W.cell? ⟨w.heap.size, 2, none⟩ = some (.slice T tn tc) ∧ W.cell? ⟨w.heap.size, 3, none⟩ = some (.slice L ln lc) ∧ W.cell? ⟨w.heap.size, 4, none⟩ = some (.slice C cn cc)) := fun W hW => by
    have j := (hW.block w.heap.size (by have := Z1.out; omega)).trans k1
    exact ⟨cell_of_row W _ 0 _ _ _ j, cell_of_row W _ 1 _ _ _ j, cell_of_row W _ 2 _ _ _ j, cell_of_row W _ 3 _ _ _ j, cell_of_row W _ 4 _ _ _ j⟩
  have FIN : Hid (∀ W, Below w1.heap.size w1 W → Below w.heap.size w W) := fun W hW => B1.out.trans (hW.mono (by have := Z1.out; omega))
  have HS : Hid (∀ W, Below w1.heap.size w1 W → LR W lo (min hi w.heap.size) R rn rx T tn tx L ln lo7 lB lm ld lx C cn cB cm cd cx) := fun W hW => h.lt.below (FIN.out W hW) (Nat.min_le_right _ _)
  have HW1 := Lib.hid hw1
  have H0 := Lib.hid h0
  have HR := Lib.hid hr; have HT := Lib.hid ht; have HL := Lib.hid hl; have HLM := Lib.hid hlm; have HC := Lib.hid hc; have HCM := Lib.hid hcm
  clear h k1 hw1 h0 hr ht hl hlm hc hcm
  obtain ⟨r0, r1, r2, r3, r4⟩ := KS.out w1 (Below.refl _ _)
  go_enter Try.func15, Try.ntmps15
  go_upto_region 1 with (fail)
  rw [← HW1.out]
  clear HW1
  go_wp2_with fail
  refine (szSched7_any b R rn rc L0 w1 HR.out H0.out).mono ?_
  rintro e w2 ⟨rfl, hb⟩
  have R2 := Lib.hid hb
  clear hb r0 r1 r2 r3 r4
  by_cases h1 : (rn : Int) ≤ L0
  rotate_left
  · rw [if_neg h1]
    clear h1
    go_wp2
    go_ret
    exact ⟨-1, rfl, .inl rfl, FIN.out _ R2.out⟩
  rw [if_pos h1]
  obtain ⟨L1, hL1⟩ : ∃ L1, L1 = L0 - (rn : Int) := ⟨_, rfl⟩
  rw [← hL1]
  have H1 := Lib.hid (show 0 ≤ L1 ∧ L1 ≤ 1048576 ∧ rn ≤ 1048576 by have := H0.out; omega)
  have g1 : ¬ L1 < 0 := by have := H1.out; omega
  clear h1 hL1
  obtain ⟨r0, r1, r2, r3, r4⟩ := KS.out w2 R2.out
  go_wp2_with fail
  refine (szThreadS_any T tn tc L1 w2 HT.out ⟨H1.out.1, H1.out.2.1⟩).mono ?_
  rintro e w3 ⟨rfl, rfl⟩
  by_cases h1 : (tn : Int) ≤ L1
  rotate_left
  · rw [if_neg h1]
    clear h1
    go_wp2
    go_ret
    exact ⟨-1, rfl, .inl rfl, FIN.out _ R2.out⟩
  rw [if_pos h1]
  obtain ⟨L2, hL2⟩ : ∃ L2, L2 = L1 - (tn : Int) := ⟨_, rfl⟩
  rw [← hL2]
  have H2 := Lib.hid (show 0 ≤ L2 ∧ L2 ≤ 1048576 ∧ tn ≤ 1048576 by have := H1.out; omega)
  have g2 : ¬ L2 < 0 := by have := H2.out; omega
  clear h1 hL2
  go_wp2_with fail
  refine (szLockS_any lo (min hi w.heap.size) L ln lc lo7 lB lm ld lx L2 w2 ⟨H2.out.1, H2.out.2.1⟩ HL.out HLM.out (HS.out w2 R2.out).l).mono ?_
  rintro e w4 ⟨v3, rfl, hv, hb⟩
  have R4 := Lib.hid (R2.out.trans (hb.mono R2.out.size))
  clear hb r0 r1 r2 r3 r4
  rcases hv with rfl | ⟨h3a, h3b, h3c, h3d⟩
  · go_wp2
    go_ret
    exact ⟨-1, rfl, .inl rfl, FIN.out _ R4.out⟩
  have H3 := Lib.hid (show 0 ≤ v3 ∧ v3 ≤ 1048576 ∧ ln ≤ 1048576 ∧ ∀ i, i < ln → lm i ≤ 1048576 from ⟨h3a, h3b, h3c, h3d⟩)
  have g3 : ¬ v3 < 0 := by omega
  clear h3a h3b h3c h3d
  obtain ⟨r0, r1, r2, r3, r4⟩ := KS.out w4 R4.out
  go_wp2_with fail
  refine (szInt64SS_any lo (min hi w.heap.size) C cn cc cB cm cd cx v3 w4 ⟨H3.out.1, H3.out.2.1⟩ HC.out HCM.out (HS.out w4 R4.out).c).mono ?_
  rintro e w5 ⟨v4, rfl, hv, hb⟩
  have R5 := Lib.hid (R4.out.trans (hb.mono R4.out.size))
  clear hb r0 r1 r2 r3 r4
  rcases hv with rfl | ⟨h4a, h4b, h4c, h4d⟩
  · go_wp2
    go_ret
    exact ⟨-1, rfl, .inl rfl, FIN.out _ R5.out⟩
  have H4 := Lib.hid (show 0 ≤ v4 ∧ v4 ≤ 1048576 ∧ cn ≤ 1048576 ∧ ∀ i, i < cn → cm i ≤ 1048576 from ⟨h4a, h4b, h4c, h4d⟩)
  have g4 : ¬ v4 < 0 := by omega
  clear h4a h4b h4c h4d
  go_wp2
  go_ret
  exact ⟨v4, rfl, .inr ⟨H4.out.1, H4.out.2.1, H1.out.2.2, H2.out.2.2, H3.out.2.2, H4.out.2.2⟩, FIN.out _ R5.out⟩

set_option maxHeartbeats 2000000 in
theorem eqLib_same (lo hi lo' hi' : Nat) (b : Int) (rc tc lc cc : Nat) (rc' tc' lc' cc' : Nat) (R : Option Addr) (rn : Nat) (rx : Nat → Int) (T : Option Addr) (tn : Nat) (tx : Nat → Int) (L : Option Addr) (ln : Nat) (lo7 : Nat → Int) (lB : Nat → Option Addr) (lm ld : Nat → Nat) (lx : Nat → Nat → Int) (C : Option Addr) (cn : Nat) (cB : Nat → Option Addr) (cm cd : Nat → Nat) (cx : Nat → Nat → Int) (R' T' L' C' : Option Addr) (lB' cB' : Nat → Option Addr) (ld' cd' : Nat → Nat) (w : World) (hr : rn ≤ 1048576) (ht : tn ≤ 1048576) (hl : ln ≤ 1048576) (hlm : ∀ i, i < ln → lm i ≤ 1048576) (hc : cn ≤ 1048576) (hcm : ∀ i, i < cn → cm i ≤ 1048576) (h : LR w lo hi R rn rx T tn tx L ln lo7 lB lm ld lx C cn cB cm cd cx) (h' : LR w lo' hi' R' rn rx T' tn tx L' ln lo7 lB' lm ld' lx C' cn cB' cm cd' cx) :
    Calls Try.prog 19 #[.agg #[.int .i64 b, .slice R rn rc, .slice T tn tc, .slice L ln lc, .slice C cn cc], .agg #[.int .i64 b, .slice R' rn rc', .slice T' tn tc', .slice L' ln lc', .slice C' cn cc']] w fun e w' => e = .returned (.bool true) ∧ Below w.heap.size w w' := by
  obtain ⟨w1, hw1⟩ : ∃ w1, w1 = (w.alloc (.cells #[.int .i64 b, .slice R rn rc, .slice T tn tc, .slice L ln lc, .slice C cn cc] 54)).alloc (.cells #[.int .i64 b, .slice R' rn rc', .slice T' tn tc', .slice L' ln lc', .slice C' cn cc'] 54) := ⟨_, rfl⟩
  have k1 : w1.heap[w.heap.size]? = some (.cells #[.int .i64 b, .slice R rn rc, .slice T tn tc, .slice L ln lc, .slice C cn cc] 54 (0, 0)) := by rw [hw1]; exact heap_alloc2_old w _ _
  have k2 : w1.heap[w.heap.size + 1]? = some (.cells #[.int .i64 b, .slice R' rn rc', .slice T' tn tc', .slice L' ln lc', .slice C' cn cc'] 54 (0, 0)) := by rw [hw1]; exact heap_alloc2_new w _ _
  have B1 : Hid (Below w.heap.size w w1) := by rw [hw1]; exact (below_new w _).alloc (by simp) _
  have Z1 : Hid (w1.heap.size = w.heap.size + 2) := by show _ = _; rw [hw1]; simp
  have KS : Hid (∀ W, Below w1.heap.size w1 W → (W.cell? ⟨w.heap.size, 0, none⟩ = some (.int .i64 b) ∧ W.cell? ⟨w.heap.size, 1, none⟩ = some (.slice R rn rc) ∧ W.cell? ⟨w.heap.size, 2, none⟩ = some (.slice T tn tc) ∧ W.cell? ⟨w.heap.size, 3, none⟩ = some (.slice L ln lc) ∧ W.cell? ⟨w.heap.size, 4, none⟩ = some (.slice C cn cc)) ∧ W.cell? ⟨w.heap.size + 1, 0, none⟩ = some (.int .i64 b) ∧ W.cell? ⟨w.heap.size + 1, 1, none⟩ = some (.slice R' rn rc') ∧ W.cell? ⟨w.heap.size + 1, 2, none⟩ = some (.slice T' tn tc') ∧ W.cell? ⟨w.heap.size + 1, 3, none⟩ = some (.slice L' ln lc') ∧ W.cell? ⟨w.heap.size + 1, 4, none⟩ = some (.slice C' cn cc')) := fun W hW => by
    have j := (hW.block w.heap.size (by have := Z1.out; omega)).trans k1
    have j2 := (hW.block (w.heap.size + 1) (by have := Z1.out; omega)).trans k2
    exact ⟨⟨cell_of_row W _ 0 _ _ _ j, cell_of_row W _ 1 _ _ _ j, cell_of_row W _ 2 _ _ _ j, cell_of_row W _ 3 _ _ _ j, cell_of_row W _ 4 _ _ _ j⟩, cell_of_row W _ 0 _ _ _ j2, cell_of_row W _ 1 _ _ _ j2, cell_of_row W _ 2 _ _ _ j2, cell_of_row W _ 3 _ _ _ j2, cell_of_row W _ 4 _ _ _ j2⟩
  have FIN : Hid (∀ W, Below w1.heap.size w1 W → Below w.heap.size w W) := fun W hW => B1.out.trans (hW.mono (by have := Z1.out; omega))
  have HS : Hid (∀ W, Below w1.heap.size w1 W → LR W lo (min hi w.heap.size) R rn rx T tn tx L ln lo7 lB lm ld lx C cn cB cm cd cx ∧ LR W lo' (min hi' w.heap.size) R' rn rx T' tn tx L' ln lo7 lB' lm ld' lx C' cn cB' cm cd' cx) := fun W hW => ⟨h.lt.below (FIN.out W hW) (Nat.min_le_right _ _), h'.lt.below (FIN.out W hW) (Nat.min_le_right _ _)⟩
  have HW1 := Lib.hid hw1
  have HR := Lib.hid hr; have HT := Lib.hid ht; have HL := Lib.hid hl; have HLM := Lib.hid hlm; have HC := Lib.hid hc; have HCM := Lib.hid hcm
  clear h h' k1 k2 hw1 hr ht hl hlm hc hcm
  obtain ⟨⟨r0, r1, r2, r3, r4⟩, q0, q1, q2, q3, q4⟩ := KS.out w1 (Below.refl _ _)
  go_enter Try.func19, Try.ntmps19
  go_upto_region 1 with (fail)
  rw [← HW1.out]
  clear HW1
  go_wp2_with fail
  refine (eqSched_same lo _ lo' _ R R' rn rc rc' b rx w1 (by have := HR.out; omega) (HS.out w1 (Below.refl _ _)).1.r (HS.out w1 (Below.refl _ _)).2.r).mono ?_
  rintro e w2 ⟨rfl, hb⟩
  have R2 := Lib.hid hb
  clear hb r0 r1 r2 r3 r4 q0 q1 q2 q3 q4
  obtain ⟨⟨r0, r1, r2, r3, r4⟩, q0, q1, q2, q3, q4⟩ := KS.out w2 R2.out
  go_wp2_with fail
  refine (eqThreadS_same lo _ lo' _ T T' tn tc tc' tx w2 (by have := HT.out; omega) (HS.out w2 R2.out).1.t (HS.out w2 R2.out).2.t).mono ?_
  rintro e w3 ⟨rfl, hb⟩
  have R3 := Lib.hid (R2.out.trans (hb.mono R2.out.size))
  clear hb r0 r1 r2 r3 r4 q0 q1 q2 q3 q4
  obtain ⟨⟨r0, r1, r2, r3, r4⟩, q0, q1, q2, q3, q4⟩ := KS.out w3 R3.out
  go_wp2_with fail
  refine (eqLockS_same lo _ lo' _ L L' ln lc lc' lo7 lB lB' lm ld ld' lx w3 HL.out HLM.out (HS.out w3 R3.out).1.l (HS.out w3 R3.out).2.l).mono ?_
  rintro e w4 ⟨rfl, hb⟩
  have R4 := Lib.hid (R3.out.trans (hb.mono R3.out.size))
  clear hb r0 r1 r2 r3 r4 q0 q1 q2 q3 q4
  obtain ⟨⟨r0, r1, r2, r3, r4⟩, q0, q1, q2, q3, q4⟩ := KS.out w4 R4.out
  go_wp2_with fail
  refine (eqInt64SS_same lo _ lo' _ C C' cn cc cc' cB cB' cm cd cd' cx w4 HC.out HCM.out (HS.out w4 R4.out).1.c (HS.out w4 R4.out).2.c).mono ?_
  rintro e w5 ⟨rfl, hb⟩
  have R5 := Lib.hid (R4.out.trans (hb.mono R4.out.size))
  clear hb r0 r1 r2 r3 r4 q0 q1 q2 q3 q4
  go_wp2
  go_ret
  exact ⟨rfl, FIN.out _ R5.out⟩

end Go.Proofs.Ytaemegkdmbhpnaa
