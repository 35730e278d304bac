/-
  The law's helpers on what a run answers: compare, mark, look again. No conditions beyond that its lists can be read.
-/
import Derived.Test.YtkhphkfbjbhgaaaGreatLoop3
import Derived.Test.YtkhphkfbjbhgaaaGreatKit3c
namespace Go.Proofs.YtkhphkfbjbhgaaaGreat
open Go.RowKit
set_option maxRecDepth 100000

set_option maxHeartbeats 1000000 in
theorem RQ.krd {w : World} {lo hi : Nat} {p : Rq} {K : Ker} {cs ns : List Int} (h : RQ w lo hi p K cs ns) : KRead w lo hi p.A1 p.n1 p.A2 p.n2 p.A3 p.n3 K :=
  ⟨⟨h.l1, h.l2, h.l3⟩, h.m1.sl.wide h.b1.1 h.b1.2, h.m2.sl.wide h.b2.1 h.b2.2, h.m3.sl.wide h.b3.1 h.b3.2⟩
set_option maxHeartbeats 1000000 in
theorem RQ.below {w w' : World} {lo hi : Nat} {p : Rq} {K : Ker} {cs ns : List Int} (h : RQ w lo hi p K cs ns) (hb : Below w.heap.size w w') (hh : hi ≤ w.heap.size) : RQ w' lo hi p K cs ns :=
  ⟨h.l1, h.l2, h.l3, h.l4, h.l5, h.m1.below hb (by have := h.b1; omega), h.m2.below hb (by have := h.b2; omega), h.m3.below hb (by have := h.b3; omega), h.m4.below hb (by have := h.b4; omega), h.m5.below hb (by have := h.b5; omega), h.d14, h.b1, h.b2, h.b3, h.b4, h.b5, h.k4, h.k5⟩
set_option maxHeartbeats 1000000 in
theorem RQ.keep {w w' : World} {lo hi : Nat} {p : Rq} {K : Ker} {cs ns : List Int} (h : RQ w lo hi p K cs ns) (hb : ∀ b, lo ≤ b → b < hi → w'.heap[b]? = w.heap[b]?) : RQ w' lo hi p K cs ns :=
  ⟨h.l1, h.l2, h.l3, h.l4, h.l5, h.m1.keep (fun b x y => hb b (by have := h.b1; omega) (by have := h.b1; omega)), h.m2.keep (fun b x y => hb b (by have := h.b2; omega) (by have := h.b2; omega)), h.m3.keep (fun b x y => hb b (by have := h.b3; omega) (by have := h.b3; omega)), h.m4.keep (fun b x y => hb b (by have := h.b4; omega) (by have := h.b4; omega)), h.m5.keep (fun b x y => hb b (by have := h.b5; omega) (by have := h.b5; omega)), h.d14, h.b1, h.b2, h.b3, h.b4, h.b5, h.k4, h.k5⟩

set_option maxHeartbeats 2000000 in
theorem eqRQ_own {lo hi lo' hi' : Nat} {p p' : Rq} {q : Int} {K : Ker} {cs ns : List Int} {w : World} (s : K.os.length ≤ 12 ∧ K.al.length ≤ 4 ∧ K.ac.length ≤ 16 ∧ cs.length ≤ 400 ∧ ns.length ≤ 3600) (h : RQ w lo hi p K cs ns) (h' : RQ w lo' hi' p' K cs ns) :
    Calls Tryz.prog 32 #[.agg (p.cells q K), .agg (p'.cells q K)] w fun e w' => e = .returned (.bool true) ∧ Below w.heap.size w w' := by
  have k := h.krd.lt; have k' := h'.krd.lt
  have G4 := (h.m4.sl.wide h.b4.1 h.b4.2).lt; have G4' := (h'.m4.sl.wide h'.b4.1 h'.b4.2).lt
  have G5 := (h.m5.sl.wide h.b5.1 h.b5.2).lt; have G5' := (h'.m5.sl.wide h'.b5.1 h'.b5.2).lt
  have e1 := h.l1; have e2 := h.l2; have e3 := h.l3; have e4 := h.l4; have e5 := h.l5
  have f1 := h'.l1; have f2 := h'.l2; have f3 := h'.l3; have f4 := h'.l4; have f5 := h'.l5
  clear h h'
  obtain ⟨A1, n1, c1, A2, n2, c2, A3, n3, c3, A4, n4, c4, A5, n5, c5, g1, g2, g3, g4, g5⟩ := p
  obtain ⟨A1', n1', c1', A2', n2', c2', A3', n3', c3', A4', n4', c4', A5', n5', c5', g1', g2', g3', g4', g5'⟩ := p'
  dsimp only at e1 e2 e3 e4 e5 f1 f2 f3 f4 f5 k k' G4 G4' G5 G5'
  obtain rfl : n1 = n1' := by omega
  obtain rfl : n2 = n2' := by omega
  obtain rfl : n3 = n3' := by omega
  obtain rfl : n4 = n4' := by omega
  obtain rfl : n5 = n5' := by omega
  clear f1 f2 f3 f4 f5
  unfold Rq.cells
  dsimp only
  obtain ⟨w1, hw1⟩ : ∃ w1, w1 = (w.alloc (.cells #[.int .i64 q, .slice A1 n1 c1, .slice A2 n2 c2, .slice A3 n3 c3, .int .i64 K.tick, .int .i64 K.run, .slice A4 n4 c4, .slice A5 n5 c5] 52)).alloc (.cells #[.int .i64 q, .slice A1' n1 c1', .slice A2' n2 c2', .slice A3' n3 c3', .int .i64 K.tick, .int .i64 K.run, .slice A4' n4 c4', .slice A5' n5 c5'] 52) := ⟨_, rfl⟩
  have k1 : w1.heap[w.heap.size]? = some (.cells #[.int .i64 q, .slice A1 n1 c1, .slice A2 n2 c2, .slice A3 n3 c3, .int .i64 K.tick, .int .i64 K.run, .slice A4 n4 c4, .slice A5 n5 c5] 52 (0, 0)) := by rw [hw1]; exact heap_alloc2_old w _ _
  have k2 : w1.heap[w.heap.size + 1]? = some (.cells #[.int .i64 q, .slice A1' n1 c1', .slice A2' n2 c2', .slice A3' n3 c3', .int .i64 K.tick, .int .i64 K.run, .slice A4' n4 c4', .slice A5' n5 c5'] 52 (0, 0)) := by rw [hw1]; exact heap_alloc2_new w _ _
  have B1 : Hid (Below w.heap.size w w1) := by rw [hw1]; exact (below_new w _).alloc (by simp) _
  have Z1 : Hid (w1.heap.size = w.heap.size + 2) := by show _ = _; rw [hw1]; simp
  have KS : Hid (∀ W, Below w1.heap.size w1 W → (W.cell? ⟨w.heap.size, 0, none⟩ = some (.int .i64 q) ∧ W.cell? ⟨w.heap.size, 1, none⟩ = some (.slice A1 n1 c1) ∧ W.cell? ⟨w.heap.size, 2, none⟩ = some (.slice A2 n2 c2) ∧ W.cell? ⟨w.heap.size, 3, none⟩ = some (.slice A3 n3 c3) ∧ W.cell? ⟨w.heap.size, 4, none⟩ = some (.int .i64 K.tick) ∧ W.cell? ⟨w.heap.size, 5, none⟩ = some (.int .i64 K.run) ∧ W.cell? ⟨w.heap.size, 6, none⟩ = some (.slice A4 n4 c4) ∧ W.cell? ⟨w.heap.size, 7, none⟩ = some (.slice A5 n5 c5)) ∧ (W.cell? ⟨w.heap.size + 1, 0, none⟩ = some (.int .i64 q) ∧ W.cell? ⟨w.heap.size + 1, 1, none⟩ = some (.slice A1' n1 c1') ∧ W.cell? ⟨w.heap.size + 1, 2, none⟩ = some (.slice A2' n2 c2') ∧ W.cell? ⟨w.heap.size + 1, 3, none⟩ = some (.slice A3' n3 c3') ∧ W.cell? ⟨w.heap.size + 1, 4, none⟩ = some (.int .i64 K.tick) ∧ W.cell? ⟨w.heap.size + 1, 5, none⟩ = some (.int .i64 K.run) ∧ W.cell? ⟨w.heap.size + 1, 6, none⟩ = some (.slice A4' n4 c4') ∧ W.cell? ⟨w.heap.size + 1, 7, none⟩ = some (.slice A5' n5 c5'))) := fun W hW => by
    have j := (hW.block w.heap.size (by have := Z1.out; omega)).trans k1
    have j2 := (hW.block (w.heap.size + 1) (by have := Z1.out; omega)).trans k2
    exact ⟨⟨cell_of_row W _ 0 _ _ _ j, cell_of_row W _ 1 _ _ _ j, cell_of_row W _ 2 _ _ _ j, cell_of_row W _ 3 _ _ _ j, cell_of_row W _ 4 _ _ _ j, cell_of_row W _ 5 _ _ _ j, cell_of_row W _ 6 _ _ _ j, cell_of_row W _ 7 _ _ _ j⟩, cell_of_row W _ 0 _ _ _ j2, cell_of_row W _ 1 _ _ _ j2, cell_of_row W _ 2 _ _ _ j2, cell_of_row W _ 3 _ _ _ j2, cell_of_row W _ 4 _ _ _ j2, cell_of_row W _ 5 _ _ _ j2, cell_of_row W _ 6 _ _ _ j2, cell_of_row W _ 7 _ _ _ j2⟩
  have FIN : Hid (∀ W, Below w1.heap.size w1 W → Below w.heap.size w W) := fun W hW => B1.out.trans (hW.mono (by have := Z1.out; omega))
  have KA : Hid (∀ W, Below w1.heap.size w1 W → KRead W lo (min hi w.heap.size) A1 n1 A2 n2 A3 n3 K) := fun W hW => k.below (FIN.out W hW) (Nat.min_le_right _ _)
  have KB : Hid (∀ W, Below w1.heap.size w1 W → KRead W lo' (min hi' w.heap.size) A1' n1 A2' n2 A3' n3 K) := fun W hW => k'.below (FIN.out W hW) (Nat.min_le_right _ _)
  have H4 := Lib.hid G4; have H4' := Lib.hid G4'; have H5 := Lib.hid G5; have H5' := Lib.hid G5'
  have HW1 := Lib.hid hw1
  have SS := Lib.hid s
  clear k k' G4 G4' G5 G5' hw1 k1 k2 s
  have b1 : n1 ≤ 12 := by have := SS.out; omega
  have b2 : n2 ≤ 4 := by have := SS.out; omega
  have b3 : n3 ≤ 4 := by have := SS.out; omega
  have b4 : n4 ≤ 400 := by have := SS.out; omega
  have b5 : n5 ≤ 1200 := by have := SS.out; omega
  clear e1 e2 e3 e4 e5 SS
  obtain ⟨⟨x0, x1, x2, x3, x4, x5, x6, x7⟩, y0, y1, y2, y3, y4, y5, y6, y7⟩ := KS.out w1 (Below.refl _ _)
  go_enter Tryz.func32, Tryz.ntmps32
  go_upto_region 1 with (fail)
  rw [← HW1.out]
  clear HW1
  go_wp2_with fail
  refine (eqKernel_same _ _ _ _ A1 n1 c1 A2 n2 c2 A3 n3 c3 A1' c1' A2' c2' A3' c3' K.tick K.run K w1 (by omega) (by omega) (by omega) (KA.out w1 (Below.refl _ _)) (KB.out w1 (Below.refl _ _))).mono ?_
  rintro e w2 ⟨rfl, hb⟩
  have R2 := Lib.hid hb
  clear hb x0 x1 x2 x3 x4 x5 x6 x7 y0 y1 y2 y3 y4 y5 y6 y7
  obtain ⟨⟨x0, x1, x2, x3, x4, x5, x6, x7⟩, y0, y1, y2, y3, y4, y5, y6, y7⟩ := KS.out w2 R2.out
  go_wp2_with fail
  refine (eqInt64S_same lo (min hi w.heap.size) lo' (min hi' w.heap.size) A4 A4' n4 c4 c4' (gi cs) w2 (by omega) (H4.out.below (FIN.out _ R2.out) (Nat.min_le_right _ _)) (H4'.out.below (FIN.out _ R2.out) (Nat.min_le_right _ _))).mono ?_
  rintro e w3 ⟨rfl, hb⟩
  have R3 := Lib.hid (R2.out.trans (hb.mono R2.out.size))
  clear hb x0 x1 x2 x3 x4 x5 x6 x7 y0 y1 y2 y3 y4 y5 y6 y7
  obtain ⟨⟨x0, x1, x2, x3, x4, x5, x6, x7⟩, y0, y1, y2, y3, y4, y5, y6, y7⟩ := KS.out w3 R3.out
  go_wp2_with fail
  refine (eqNoteS_same lo (min hi w.heap.size) lo' (min hi' w.heap.size) A5 A5' n5 c5 c5' (gi ns) w3 (by omega) (H5.out.below (FIN.out _ R3.out) (Nat.min_le_right _ _)) (H5'.out.below (FIN.out _ R3.out) (Nat.min_le_right _ _))).mono ?_
  rintro e w4 ⟨rfl, hb⟩
  have R4 := Lib.hid (R3.out.trans (hb.mono R3.out.size))
  clear hb x0 x1 x2 x3 x4 x5 x6 x7 y0 y1 y2 y3 y4 y5 y6 y7
  go_wp2
  go_ret
  exact ⟨rfl, FIN.out _ R4.out⟩

/-- an answer's lists, marked from 1 on -/
def MkQ (w : World) (p : Rq) : Prop :=
  Mine w p.g1 (p.g1 + 1) 2 p.A1 p.n1 (fun k => .int .i64 ((1 + k : Nat) : Int)) ∧ Mine w p.g2 (p.g2 + 1) 4 p.A2 p.n2 (fun k => .bool (Go.Proofs.YtkhphkfbjbhgaaaGreat.m3 (1 + p.n1 + k))) ∧ Mine w p.g3 (p.g3 + 1) 88 p.A3 (p.n3 * 4) (fun k => .int .i64 ((1 + p.n1 + p.n2 + k : Nat) : Int)) ∧
    Mine w p.g4 (p.g4 + 1) 2 p.A4 p.n4 (fun k => .int .i64 ((1 + p.n1 + p.n2 + p.n3 * 4 + k : Nat) : Int)) ∧ Mine w p.g5 (p.g5 + 1) 65 p.A5 (p.n5 * 3) (fun k => .int .i64 ((1 + p.n1 + p.n2 + p.n3 * 4 + p.n4 + k : Nat) : Int))
def Rq.lt (p : Rq) (w : World) : Prop := p.g1 < w.heap.size ∧ p.g2 < w.heap.size ∧ p.g3 < w.heap.size ∧ p.g4 < w.heap.size ∧ p.g5 < w.heap.size
set_option maxHeartbeats 1000000 in
theorem MkQ.below {w w' : World} {p : Rq} (h : MkQ w p) (b : Below w.heap.size w w') (hg : p.lt w) : MkQ w' p :=
  ⟨h.1.below b hg.1, h.2.1.below b hg.2.1, h.2.2.1.below b hg.2.2.1, h.2.2.2.1.below b hg.2.2.2.1, h.2.2.2.2.below b hg.2.2.2.2⟩
def Rq.tot (p : Rq) : Nat := 1 + p.n1 + p.n2 + p.n3 * 4 + p.n4 + p.n5 * 3

set_option maxHeartbeats 2000000 in
theorem markRQ_own {lo hi : Nat} {p : Rq} {q : Int} {K : Ker} {cs ns : List Int} {w : World} (s : K.os.length ≤ 12 ∧ K.al.length ≤ 4 ∧ K.ac.length ≤ 16 ∧ cs.length ≤ 400 ∧ ns.length ≤ 3600) (h : RQ w lo hi p K cs ns) (hh : hi ≤ w.heap.size) :
    Calls Tryz.prog 33 #[.agg (p.cells q K), .int .i64 1] w fun e w' => e = .returned (.int .i64 (p.tot : Int)) ∧ MkQ w' p ∧ Kept [p.g1, p.g2, p.g3, p.g4, p.g5] w w' := by
  have e1 := h.l1; have e2 := h.l2; have e3 := h.l3; have e4 := h.l4; have e5 := h.l5
  have t1 := h.b1; have t2 := h.b2; have t3 := h.b3; have t4 := h.b4; have t5 := h.b5
  have m1 := h.m1; have m2 := h.m2; have m3 := h.m3; have m4 := h.m4; have m5 := h.m5
  have d14 := h.d14
  clear h
  obtain ⟨A1, n1, c1, A2, n2, c2, A3, n3, c3, A4, n4, c4, A5, n5, c5, g1, g2, g3, g4, g5⟩ := p
  unfold Rq.cells
  dsimp only at e1 e2 e3 e4 e5 t1 t2 t3 t4 t5 m1 m2 m3 m4 m5 d14 ⊢
  have b1 : n1 ≤ 12 := by omega
  have b2 : n2 ≤ 4 := by omega
  have b3 : n3 ≤ 4 := by omega
  have b4 : n4 ≤ 400 := by omega
  have b5 : n5 ≤ 1200 := by omega
  have HG := Lib.hid (show g1 < w.heap.size ∧ g2 < w.heap.size ∧ g3 < w.heap.size ∧ g4 < w.heap.size ∧ g5 < w.heap.size by omega)
  clear e1 e2 e3 e4 e5 t1 t2 t3 t4 t5 s hh
  obtain ⟨w1, hw1⟩ : ∃ w1, w1 = w.alloc (.cells #[.int .i64 q, .slice A1 n1 c1, .slice A2 n2 c2, .slice A3 n3 c3, .int .i64 K.tick, .int .i64 K.run, .slice A4 n4 c4, .slice A5 n5 c5] 52) := ⟨_, rfl⟩
  have k1 : w1.heap[w.heap.size]? = some (.cells #[.int .i64 q, .slice A1 n1 c1, .slice A2 n2 c2, .slice A3 n3 c3, .int .i64 K.tick, .int .i64 K.run, .slice A4 n4 c4, .slice A5 n5 c5] 52 (0, 0)) := by rw [hw1]; exact heap_alloc_new w _
  have B1 : Hid (Below w.heap.size w w1) := by rw [hw1]; exact below_new w _
  have Z1 : Hid (w1.heap.size = w.heap.size + 1) := by show _ = _; rw [hw1]; simp
  have GS : List Nat → List Nat := id
  have KS : Hid (∀ W, Kept [g1, g2, g3, g4, g5] w1 W → W.cell? ⟨w.heap.size, 0, none⟩ = some (.int .i64 q) ∧ W.cell? ⟨w.heap.size, 1, none⟩ = some (.slice A1 n1 c1) ∧ W.cell? ⟨w.heap.size, 2, none⟩ = some (.slice A2 n2 c2) ∧ W.cell? ⟨w.heap.size, 3, none⟩ = some (.slice A3 n3 c3) ∧ W.cell? ⟨w.heap.size, 4, none⟩ = some (.int .i64 K.tick) ∧ W.cell? ⟨w.heap.size, 5, none⟩ = some (.int .i64 K.run) ∧ W.cell? ⟨w.heap.size, 6, none⟩ = some (.slice A4 n4 c4) ∧ W.cell? ⟨w.heap.size, 7, none⟩ = some (.slice A5 n5 c5)) := fun W hW => by
    have hg := HG.out
    have j := (hW.2 w.heap.size (by have := Z1.out; omega) (by simp; omega)).trans k1
    exact ⟨cell_of_row W _ 0 _ _ _ j, cell_of_row W _ 1 _ _ _ j, cell_of_row W _ 2 _ _ _ j, cell_of_row W _ 3 _ _ _ j, cell_of_row W _ 4 _ _ _ j, cell_of_row W _ 5 _ _ _ j, cell_of_row W _ 6 _ _ _ j, cell_of_row W _ 7 _ _ _ j⟩
  have M1 := Lib.hid (m1.below B1.out (by have := HG.out; omega)); have M2 := Lib.hid (m2.below B1.out (by have := HG.out; omega)); have M3 := Lib.hid (m3.below B1.out (by have := HG.out; omega)); have M4 := Lib.hid (m4.below B1.out (by have := HG.out; omega)); have M5 := Lib.hid (m5.below B1.out (by have := HG.out; omega))
  have D14 := Lib.hid d14
  have HW1 := Lib.hid hw1
  clear m1 m2 m3 m4 m5 hw1 k1 d14 GS
  obtain ⟨x0, x1, x2, x3, x4, x5, x6, x7⟩ := KS.out w1 (Kept.refl _ _)
  go_enter Tryz.func33, Tryz.ntmps33
  go_upto_region 1 with (fail)
  rw [← HW1.out]
  clear HW1
  go_wp2_with fail
  refine (markKernel_any A1 n1 c1 A2 n2 c2 A3 n3 c3 g1 g2 g3 _ _ _ K.tick K.run 1 w1 (by omega) (by omega) (by omega) (by omega) M1.out M2.out M3.out (by have := HG.out; have := Z1.out; omega) (by have := HG.out; have := Z1.out; omega) (by have := HG.out; have := Z1.out; omega) (fun a b => mine_ne3 M1.out M2.out (by decide) a b) (fun a b => mine_ne3 M1.out M3.out (by decide) a (by omega)) (fun a b => mine_ne3 M2.out M3.out (by decide) a (by omega))).mono ?_
  rintro e w2 ⟨rfl, u1, u2, u3, hk⟩
  have U1 := Lib.hid u1; have U2 := Lib.hid u2; have U3 := Lib.hid u3
  have HK := Lib.hid hk
  have X2 : Hid (Kept [g1, g2, g3, g4, g5] w1 w2) := hk.mono fun b hb _ => by
    simp only [List.mem_append, gsOf] at hb
    rcases hb with (hb | hb) | hb <;> (split at hb <;> simp_all)
  have nin : ∀ {n g : Nat} {t : TypeId} {A : Option Addr} {f : Nat → Value}, Mine w1 g (g + 1) t A n f → n ≠ 0 → (n1 ≠ 0 → g1 ≠ g) → t ≠ 4 → t ≠ 88 → g ∉ gsOf n1 g1 ++ gsOf n2 g2 ++ gsOf (n3 * 4) g3 := fun hm hn hd y2 y3 => by
    simp only [List.mem_append]
    rintro ((hh | hh) | hh)
    · by_cases z : n1 = 0
      · rw [gsOf, if_pos z] at hh; cases hh
      · exact gs_notin (hd z) hh
    · by_cases z : n2 = 0
      · rw [gsOf, if_pos z] at hh; cases hh
      · exact gs_notin (mine_ne3 M2.out hm (fun q => y2 q.symm) z hn) hh
    · by_cases z : n3 * 4 = 0
      · rw [gsOf, if_pos z] at hh; cases hh
      · exact gs_notin (mine_ne3 M3.out hm (fun q => y3 q.symm) z hn) hh
  have N4 : Hid (Mine w2 g4 (g4 + 1) 2 A4 n4 (fun k => .int .i64 (gi cs k))) := by
    by_cases h0 : n4 = 0
    · exact .inl h0
    · exact M4.out.kept HK.out (nin M4.out h0 (fun z => D14.out z h0) (by decide) (by decide))
  have N5 : Hid (Mine w2 g5 (g5 + 1) 65 A5 (n5 * 3) (fun k => .int .i64 (gi ns k))) := by
    by_cases h0 : n5 * 3 = 0
    · exact .inl h0
    · exact M5.out.kept HK.out (nin M5.out h0 (fun z => mine_ne3 M1.out M5.out (by decide) z h0) (by decide) (by decide))
  have ZZ2 := Lib.hid (show w1.heap.size ≤ w2.heap.size from hk.1.size)
  clear u1 u2 u3 hk nin HK x0 x1 x2 x3 x4 x5 x6 x7
  obtain ⟨x0, x1, x2, x3, x4, x5, x6, x7⟩ := KS.out w2 X2.out
  go_wp2_with fail
  refine (markInt64S_kept g4 A4 n4 c4 (gi cs) (1 + n1 + n2 + n3 * 4) w2 (by omega) (by omega) N4.out).mono ?_
  rintro e w3 ⟨rfl, u4, hk⟩
  have X3 : Hid (Kept [g1, g2, g3, g4, g5] w1 w3) := X2.out.trans (hk.mono fun b hb _ => by
    simp only [gsOf] at hb
    split at hb <;> simp_all)
  have V1 := Lib.hid (U1.out.keptOf hk (fun a b => (D14.out b a).symm))
  have V2 := Lib.hid (U2.out.keptOf hk (fun a b => mine_ne3 N4.out U2.out (by decide) a b))
  have V3 := Lib.hid (U3.out.keptOf hk (fun a b => mine_ne3 N4.out U3.out (by decide) a b))
  have V5 := Lib.hid (N5.out.keptOf hk (fun a b => mine_ne3 N4.out N5.out (by decide) a b))
  have V4 := Lib.hid u4
  clear u4 hk U1 U2 U3 N4 N5 x0 x1 x2 x3 x4 x5 x6 x7
  obtain ⟨x0, x1, x2, x3, x4, x5, x6, x7⟩ := KS.out w3 X3.out
  go_wp2_with fail
  refine (markNoteS_kept g5 A5 n5 c5 (gi ns) (1 + n1 + n2 + n3 * 4 + n4) w3 (by omega) (by omega) V5.out).mono ?_
  rintro e w4 ⟨rfl, u5, hk⟩
  have X4 : Hid (Kept [g1, g2, g3, g4, g5] w1 w4) := X3.out.trans (hk.mono fun b hb _ => by
    simp only [gsOf] at hb
    split at hb <;> simp_all)
  have Y1 := Lib.hid (V1.out.keptOf hk (fun a b => mine_ne3 V5.out V1.out (by decide) a b))
  have Y2 := Lib.hid (V2.out.keptOf hk (fun a b => mine_ne3 V5.out V2.out (by decide) a b))
  have Y3 := Lib.hid (V3.out.keptOf hk (fun a b => mine_ne3 V5.out V3.out (by decide) a b))
  have Y4 := Lib.hid (V4.out.keptOf hk (fun a b => mine_ne3 V5.out V4.out (by decide) a b))
  have Y5 := Lib.hid u5
  clear u5 hk V1 V2 V3 V4 V5 x0 x1 x2 x3 x4 x5 x6 x7
  go_wp2
  go_ret
  exact ⟨rfl, ⟨Y1.out, Y2.out, Y3.out, Y4.out, Y5.out⟩, (Kept.of_below B1.out _).trans X4.out⟩

set_option maxHeartbeats 2000000 in
theorem heldRQ_own {p : Rq} {q : Int} {K : Ker} {w : World} (s : p.n1 ≤ 12 ∧ p.n2 ≤ 4 ∧ p.n3 ≤ 4 ∧ p.n4 ≤ 400 ∧ p.n5 ≤ 1200) (h : MkQ w p) (hg : p.lt w) :
    Calls Tryz.prog 34 #[.agg (p.cells q K), .int .i64 1] w fun e w' => e = .returned (.int .i64 (p.tot : Int)) ∧ Below w.heap.size w w' := by
  obtain ⟨A1, n1, c1, A2, n2, c2, A3, n3, c3, A4, n4, c4, A5, n5, c5, g1, g2, g3, g4, g5⟩ := p
  obtain ⟨h1, h2, h3, h4, h5⟩ := h
  obtain ⟨y1, y2, y3, y4, y5⟩ := hg
  obtain ⟨b1, b2, b3, b4, b5⟩ := s
  unfold Rq.cells
  dsimp only at h1 h2 h3 h4 h5 y1 y2 y3 y4 y5 b1 b2 b3 b4 b5 ⊢
  obtain ⟨w1, hw1⟩ : ∃ w1, w1 = w.alloc (.cells #[.int .i64 q, .slice A1 n1 c1, .slice A2 n2 c2, .slice A3 n3 c3, .int .i64 K.tick, .int .i64 K.run, .slice A4 n4 c4, .slice A5 n5 c5] 52) := ⟨_, rfl⟩
  have k1 : w1.heap[w.heap.size]? = some (.cells #[.int .i64 q, .slice A1 n1 c1, .slice A2 n2 c2, .slice A3 n3 c3, .int .i64 K.tick, .int .i64 K.run, .slice A4 n4 c4, .slice A5 n5 c5] 52 (0, 0)) := by rw [hw1]; exact heap_alloc_new w _
  have B1 : Hid (Below w.heap.size w w1) := by rw [hw1]; exact below_new w _
  have Z1 : Hid (w1.heap.size = w.heap.size + 1) := by show _ = _; rw [hw1]; simp
  have KS : Hid (∀ W, Below w1.heap.size w1 W → W.cell? ⟨w.heap.size, 0, none⟩ = some (.int .i64 q) ∧ W.cell? ⟨w.heap.size, 1, none⟩ = some (.slice A1 n1 c1) ∧ W.cell? ⟨w.heap.size, 2, none⟩ = some (.slice A2 n2 c2) ∧ W.cell? ⟨w.heap.size, 3, none⟩ = some (.slice A3 n3 c3) ∧ W.cell? ⟨w.heap.size, 4, none⟩ = some (.int .i64 K.tick) ∧ W.cell? ⟨w.heap.size, 5, none⟩ = some (.int .i64 K.run) ∧ W.cell? ⟨w.heap.size, 6, none⟩ = some (.slice A4 n4 c4) ∧ W.cell? ⟨w.heap.size, 7, none⟩ = some (.slice A5 n5 c5)) := fun W hW => by
    have j := (hW.block w.heap.size (by have := Z1.out; omega)).trans k1
    exact ⟨cell_of_row W _ 0 _ _ _ j, cell_of_row W _ 1 _ _ _ j, cell_of_row W _ 2 _ _ _ j, cell_of_row W _ 3 _ _ _ j, cell_of_row W _ 4 _ _ _ j, cell_of_row W _ 5 _ _ _ j, cell_of_row W _ 6 _ _ _ j, cell_of_row W _ 7 _ _ _ j⟩
  have FIN : Hid (∀ W, Below w1.heap.size w1 W → Below w.heap.size w W) := fun W hW => B1.out.trans (hW.mono (by have := Z1.out; omega))
  have S1 := Lib.hid (h1.sl.wide (Nat.zero_le _) (show g1 + 1 ≤ w.heap.size by omega)); have S2 := Lib.hid (h2.sl.wide (Nat.zero_le _) (show g2 + 1 ≤ w.heap.size by omega)); have S3 := Lib.hid (h3.sl.wide (Nat.zero_le _) (show g3 + 1 ≤ w.heap.size by omega)); have S4 := Lib.hid (h4.sl.wide (Nat.zero_le _) (show g4 + 1 ≤ w.heap.size by omega)); have S5 := Lib.hid (h5.sl.wide (Nat.zero_le _) (show g5 + 1 ≤ w.heap.size by omega))
  have HW1 := Lib.hid hw1
  clear h1 h2 h3 h4 h5 y1 y2 y3 y4 y5 k1 hw1
  obtain ⟨x0, x1, x2, x3, x4, x5, x6, x7⟩ := KS.out w1 (Below.refl _ _)
  go_enter Tryz.func34, Tryz.ntmps34
  go_upto_region 1 with (fail)
  rw [← HW1.out]
  clear HW1
  go_wp2_with fail
  refine (heldKernel_any 0 w.heap.size A1 n1 c1 A2 n2 c2 A3 n3 c3 K.tick K.run 1 w1 (by omega) (by omega) (by omega) (by omega) (S1.out.below B1.out (Nat.le_refl _)) (S2.out.below B1.out (Nat.le_refl _)) (S3.out.below B1.out (Nat.le_refl _))).mono ?_
  rintro e w2 ⟨rfl, hb⟩
  have R2 := Lib.hid hb
  have t1 : ¬ (((1 + n1 + n2 + n3 * 4 : Nat) : Int) < 0) := by omega
  clear hb x0 x1 x2 x3 x4 x5 x6 x7
  obtain ⟨x0, x1, x2, x3, x4, x5, x6, x7⟩ := KS.out w2 R2.out
  go_wp2_with fail
  refine (heldInt64S_any 0 w.heap.size A4 n4 c4 (1 + n1 + n2 + n3 * 4) w2 (by omega) (by omega) (S4.out.below (FIN.out _ R2.out) (Nat.le_refl _))).mono ?_
  rintro e w3 ⟨rfl, hb⟩
  have R3 := Lib.hid (R2.out.trans (hb.mono R2.out.size))
  have t2 : ¬ (((1 + n1 + n2 + n3 * 4 + n4 : Nat) : Int) < 0) := by omega
  clear hb x0 x1 x2 x3 x4 x5 x6 x7 t1
  obtain ⟨x0, x1, x2, x3, x4, x5, x6, x7⟩ := KS.out w3 R3.out
  go_wp2_with fail
  refine (heldNoteS_any 0 w.heap.size A5 n5 c5 (1 + n1 + n2 + n3 * 4 + n4) w3 (by omega) (by omega) (S5.out.below (FIN.out _ R3.out) (Nat.le_refl _))).mono ?_
  rintro e w4 ⟨rfl, hb⟩
  have R4 := Lib.hid (R3.out.trans (hb.mono R3.out.size))
  have t3 : ¬ (((1 + n1 + n2 + n3 * 4 + n4 + n5 * 3 : Nat) : Int) < 0) := by omega
  clear hb x0 x1 x2 x3 x4 x5 x6 x7 t2
  go_wp2
  go_ret
  exact ⟨rfl, FIN.out _ R4.out⟩

end Go.Proofs.YtkhphkfbjbhgaaaGreat
