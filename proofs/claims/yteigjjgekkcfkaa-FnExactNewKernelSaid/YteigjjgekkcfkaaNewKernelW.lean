/-
  The walk of FnExactNewKernel: for every number of slots it returns true.
-/
import Derived.Test.YteigjjgekkcfkaaKit3c
import Derived.Test.YteigjjgekkcfkaaNew3
namespace Go.Proofs.Yteigjjgekkcfkaa
open Go.RowKit
set_option maxRecDepth 100000

theorem nk_small (m : Int) : (nk m).2.os.length ≤ 12 ∧ (nk m).2.al.length ≤ 4 ∧ (nk m).2.ac.length ≤ 16 := by
  rcases new1_code m with ⟨h1, h2, h3⟩ | ⟨_, h⟩
  · rw [nk_zero h3]
    refine ⟨?_, by simp, by simp⟩
    show (new1 m).2.length ≤ 12
    unfold new1
    rw [if_neg (by omega)]
    simp
    omega
  · rw [h]; exact ⟨by decide, by decide, by decide⟩
theorem ROwn.kread {w : World} {lo hi : Nat} {p : Rp} {K : Ker} {ns : List Int} (h : ROwn w lo hi p K ns) : KRead w lo hi p.A1 p.n1 p.A2 p.n2 p.A3 p.n3 K :=
  ⟨⟨h.l1, h.l2, h.l3⟩, h.m1.sl.wide h.b1.1 h.b1.2, h.m2.sl.wide h.b2.1 h.b2.2, h.m3.sl.wide h.b3.1 h.b3.2⟩
theorem ROwn.kept {gs : List Nat} {w w' : World} {lo hi : Nat} {p : Rp} {K : Ker} {ns : List Int} (h : ROwn w lo hi p K ns) (k : Kept gs w w') (h1 : p.g1 ∉ gs) (h2 : p.g2 ∉ gs) (h3 : p.g3 ∉ gs) (h4 : p.g4 ∉ gs) : ROwn w' lo hi p K ns :=
  ⟨h.l1, h.l2, h.l3, h.l4, h.nil1, h.m1.kept k h1, h.m2.kept k h2, h.m3.kept k h3, h.m4.kept k h4, h.d12, h.d13, h.d14, h.d23, h.d24, h.d34, h.b1, h.b2, h.b3, h.b4⟩

set_option maxHeartbeats 4000000 in
theorem walkNewKernel (m : Int) (w : World) : Calls Try.prog 4 #[.int .i64 m] w fun e w' => e = .returned (.bool true) ∧ Below w.heap.size w w' := by
  have SP := Lib.hid (specNewKernel_any m)
  have IP := Lib.hid (implNewKernel_any m)
  have SM := nk_small m
  obtain ⟨q, hq⟩ : ∃ q, q = (nk m).1 := ⟨_, rfl⟩
  obtain ⟨K, hK⟩ : ∃ K, K = (nk m).2 := ⟨_, rfl⟩
  rw [← hq, ← hK] at SP IP
  rw [← hK] at SM
  clear hq hK
  go_enter Try.func4, Try.ntmps4
  go_wp2_with fail
  refine (SP.out _).mono ?_
  rintro e wx ⟨⟨A1a, n1a, c1a, A2a, n2a, c2a, A3a, n3a, c3a, A4a, n4a, c4a, g1a, g2a, g3a, g4a⟩, rfl, ho, hb⟩
  unfold Rp.val
  dsimp only
  have l1 := ho.l1; have l2 := ho.l2; have l3 := ho.l3; have l4 := ho.l4
  dsimp only at l1 l2 l3 l4
  obtain rfl : n4a = 0 := by simp at l4; omega
  have HL := Lib.hid (show K.os.length = n1a ∧ K.al.length = n2a ∧ K.ac.length = n3a * 4 from ⟨l1, l2, l3⟩)
  have B1 := Lib.hid hb
  have OA := Lib.hid ho
  have sm : n1a ≤ 12 ∧ n2a ≤ 4 ∧ n3a ≤ 4 := by omega
  have SS := Lib.hid sm
  obtain ⟨w1, hw1⟩ : ∃ w1, w1 = wx.alloc (.cells #[.int .i64 q, .slice A1a n1a c1a, .slice A2a n2a c2a, .slice A3a n3a c3a, .int .i64 K.tick, .int .i64 K.run, .slice A4a 0 c4a] 37) := ⟨_, rfl⟩
  obtain ⟨b3, hb3⟩ : ∃ b3, b3 = wx.heap.size := ⟨_, rfl⟩
  have Xb3 : Hid (w1.heap[b3]? = some (.cells #[.int .i64 q, .slice A1a n1a c1a, .slice A2a n2a c2a, .slice A3a n3a c3a, .int .i64 K.tick, .int .i64 K.run, .slice A4a 0 c4a] 37 (0, 0))) := by rw [hw1, hb3]; exact heap_alloc_new wx _
  have zw1 : w1.heap.size = b3 + 1 := by rw [hw1, hb3]; simp
  have BWw1 : Below wx.heap.size wx w1 := by rw [hw1]; exact below_new wx _
  have B1' := Lib.hid (B1.out.trans (BWw1.mono B1.out.size))
  have OA1 : Hid (ROwn w1 w.heap.size b3 ⟨A1a, n1a, c1a, A2a, n2a, c2a, A3a, n3a, c3a, A4a, 0, c4a, g1a, g2a, g3a, g4a⟩ K []) := by
    have := OA.out.kept (Kept.of_below BWw1 []) (by simp) (by simp) (by simp) (by simp)
    rw [← hb3] at this
    exact this
  have Z1 := Lib.hid (show w1.heap.size = b3 + 1 ∧ w.heap.size ≤ b3 from ⟨zw1, by have := B1.out.size; omega⟩)
  have HW1 := Lib.hid hw1; have HB3 := Lib.hid hb3
  clear hw1 hb3 zw1 BWw1 ho hb l1 l2 l3 l4 OA sm SM
  go_upto_region 2 with (fail)
  rw [← HW1.out, ← HB3.out]
  clear HW1 HB3
  go_wp2_with fail
  refine (IP.out _).mono ?_
  rintro e wx ⟨⟨A1b, n1b, c1b, A2b, n2b, c2b, A3b, n3b, c3b, A4b, n4b, c4b, g1b, g2b, g3b, g4b⟩, rfl, ho, hb⟩
  unfold Rp.val
  dsimp only
  have l1 := ho.l1; have l2 := ho.l2; have l3 := ho.l3; have l4 := ho.l4
  dsimp only at l1 l2 l3 l4
  obtain rfl : n4b = 0 := by simp at l4; omega
  obtain rfl : n1a = n1b := by have := HL.out; omega
  obtain rfl : n2a = n2b := by have := HL.out; omega
  obtain rfl : n3a = n3b := by have := HL.out; omega
  obtain ⟨w2, hw2⟩ : ∃ w2, w2 = wx.alloc (.cells #[.int .i64 q, .slice A1b n1a c1b, .slice A2b n2a c2b, .slice A3b n3a c3b, .int .i64 K.tick, .int .i64 K.run, .slice A4b 0 c4b] 37) := ⟨_, rfl⟩
  obtain ⟨b4, hb4⟩ : ∃ b4, b4 = wx.heap.size := ⟨_, rfl⟩
  have Xb4 : Hid (w2.heap[b4]? = some (.cells #[.int .i64 q, .slice A1b n1a c1b, .slice A2b n2a c2b, .slice A3b n3a c3b, .int .i64 K.tick, .int .i64 K.run, .slice A4b 0 c4b] 37 (0, 0))) := by rw [hw2, hb4]; exact heap_alloc_new wx _
  have zw2 : w2.heap.size = b4 + 1 := by rw [hw2, hb4]; simp
  have BWw2 : Below wx.heap.size wx w2 := by rw [hw2]; exact below_new wx _
  have sz := hb.size
  have z1 := Z1.out
  have BB := hb.trans (BWw2.mono hb.size)
  have X3 := Lib.hid ((BB.block b3 (by omega)).trans Xb3.out)
  have OA2 := Lib.hid (OA1.out.kept (Kept.of_below BB []) (by simp) (by simp) (by simp) (by simp))
  have OB2 := Lib.hid (ho.kept (Kept.of_below BWw2 []) (by simp) (by simp) (by simp) (by simp))
  rw [← hb4] at OB2
  have B2 := Lib.hid (B1'.out.trans (BB.mono (by omega)))
  have Z2 := Lib.hid (show w2.heap.size = b4 + 1 ∧ b3 + 1 ≤ b4 ∧ w1.heap.size = b3 + 1 from ⟨zw2, by omega, z1.1⟩)
  have HW2 := Lib.hid hw2; have HB4 := Lib.hid hb4
  clear hw2 hb4 zw2 BWw2 ho hb l1 l2 l3 l4 sz z1 BB
  have G1 := Lib.hid (show (w1.heap.size ≤ g1b ∧ g1b < b4) ∧ (w1.heap.size ≤ g2b ∧ g2b < b4) ∧ (w1.heap.size ≤ g3b ∧ g3b < b4) ∧ (w1.heap.size ≤ g4b ∧ g4b < b4) from ⟨OB2.out.b1, OB2.out.b2, OB2.out.b3, OB2.out.b4⟩)
  have QA : Hid (∀ W, Kept [g1b, g2b, g3b, g4b] w2 W → (W.cell? ⟨b3, 0, none⟩ = some (.int .i64 q) ∧ W.cell? ⟨b3, 1, none⟩ = some (.slice A1a n1a c1a) ∧ W.cell? ⟨b3, 2, none⟩ = some (.slice A2a n2a c2a) ∧ W.cell? ⟨b3, 3, none⟩ = some (.slice A3a n3a c3a) ∧ W.cell? ⟨b3, 4, none⟩ = some (.int .i64 K.tick) ∧ W.cell? ⟨b3, 5, none⟩ = some (.int .i64 K.run) ∧ W.cell? ⟨b3, 6, none⟩ = some (.slice A4a 0 c4a)) ∧ (W.cell? ⟨b4, 0, none⟩ = some (.int .i64 q) ∧ W.cell? ⟨b4, 1, none⟩ = some (.slice A1b n1a c1b) ∧ W.cell? ⟨b4, 2, none⟩ = some (.slice A2b n2a c2b) ∧ W.cell? ⟨b4, 3, none⟩ = some (.slice A3b n3a c3b) ∧ W.cell? ⟨b4, 4, none⟩ = some (.int .i64 K.tick) ∧ W.cell? ⟨b4, 5, none⟩ = some (.int .i64 K.run) ∧ W.cell? ⟨b4, 6, none⟩ = some (.slice A4b 0 c4b)) ∧ ROwn W w.heap.size b3 ⟨A1a, n1a, c1a, A2a, n2a, c2a, A3a, n3a, c3a, A4a, 0, c4a, g1a, g2a, g3a, g4a⟩ K []) := fun W hW => by
    have z2 := Z2.out; have g := G1.out
    have j1 := (hW.2 b3 (by omega) (by simp; omega)).trans X3.out
    have j2 := (hW.2 b4 (by omega) (by simp; omega)).trans Xb4.out
    have oa := OA2.out
    have o1 : w.heap.size ≤ g1a ∧ g1a < b3 := oa.b1
    have o2 : w.heap.size ≤ g2a ∧ g2a < b3 := oa.b2
    have o3 : w.heap.size ≤ g3a ∧ g3a < b3 := oa.b3
    have o4 : w.heap.size ≤ g4a ∧ g4a < b3 := oa.b4
    exact ⟨⟨cell_of_row W _ 0 _ _ _ j1, cell_of_row W _ 1 _ _ _ j1, cell_of_row W _ 2 _ _ _ j1, cell_of_row W _ 3 _ _ _ j1, cell_of_row W _ 4 _ _ _ j1, cell_of_row W _ 5 _ _ _ j1, cell_of_row W _ 6 _ _ _ j1⟩, ⟨cell_of_row W _ 0 _ _ _ j2, cell_of_row W _ 1 _ _ _ j2, cell_of_row W _ 2 _ _ _ j2, cell_of_row W _ 3 _ _ _ j2, cell_of_row W _ 4 _ _ _ j2, cell_of_row W _ 5 _ _ _ j2, cell_of_row W _ 6 _ _ _ j2⟩, oa.kept hW (by simp; omega) (by simp; omega) (by simp; omega) (by simp; omega)⟩
  have UP : Hid (∀ W, Kept [g1b, g2b, g3b, g4b] w2 W → Below w.heap.size w W) := fun W hW => B2.out.trans (hW.below (by have := Z2.out; have := Z1.out; omega) (fun b hb => by have := G1.out; have := Z2.out; have := Z1.out; simp at hb; omega))
  obtain ⟨⟨x0, x1, x2, x3, x4, x5, x6⟩, ⟨y0, y1, y2, y3, y4, y5, y6⟩, _⟩ := QA.out w2 (Kept.refl _ _)
  clear Xb3 Xb4 X3 OA1
  -- both say the same
  go_upto_region 3 with (fail)
  rw [← HW2.out, ← HB4.out]
  clear HW2 HB4
  go_wp2_with fail
  refine (eqKernelResult_same w1.heap.size b4 w.heap.size b3 A1b n1a c1b A2b n2a c2b A3b n3a c3b A4b 0 c4b A1a c1a A2a c2a A3a c3a A4a c4a q K.tick K.run K [] _ (by have := SS.out; omega) (by have := SS.out; omega) (by have := SS.out; omega) (by omega) OB2.out.kread OA2.out.kread (fun k hk => by omega) (fun k hk => by omega)).mono ?_
  rintro e w3 ⟨rfl, hb⟩
  have K3 := Lib.hid (Kept.of_below hb [g1b, g2b, g3b, g4b])
  have OB3 := Lib.hid (OB2.out.kept (Kept.of_below hb []) (by simp) (by simp) (by simp) (by simp))
  have Z3 := Lib.hid hb.size
  obtain ⟨⟨x0, x1, x2, x3, x4, x5, x6⟩, ⟨y0, y1, y2, y3, y4, y5, y6⟩, _⟩ := QA.out w3 K3.out
  clear hb
  -- the second's lists are marked
  go_wp2_with fail
  have ob := OB3.out
  have g := G1.out; have z3 := Z3.out; have z2 := Z2.out
  refine (markKernelResult_any A1b n1a c1b A2b n2a c2b A3b n3a c3b A4b 0 c4b g1b g2b g3b g4b _ _ _ _ q K.tick K.run 1 w3 (by have := SS.out; omega) (by have := SS.out; omega) (by have := SS.out; omega) (by omega) (by omega) ob.m1 ob.m2 ob.m3 ob.m4 (by omega) (by omega) (by omega) (by omega) ob.d12 ob.d13 ob.d23 (fun _ h => absurd rfl h) (fun _ h => absurd rfl h) (fun _ h => absurd rfl h)).mono ?_
  rintro e w4 ⟨rfl, m1, m2, m3, m4, hk⟩
  have K4 := Lib.hid (K3.out.trans (hk.mono (gs' := [g1b, g2b, g3b, g4b]) (fun b hb _ => by simp only [List.mem_append, gsOf] at hb; rcases hb with ((hb | hb) | hb) | hb <;> (split at hb <;> simp_all))))
  have MK : Hid (∀ W, Below w4.heap.size w4 W → Sl W w1.heap.size b4 A1b n1a (fun k => .int .i64 ((1 + k : Nat) : Int)) ∧ Sl W w1.heap.size b4 A2b n2a (fun k => .bool (Go.Proofs.Yteigjjgekkcfkaa.m3 (1 + n1a + k))) ∧ Sl W w1.heap.size b4 A3b (n3a * 4) (fun k => .int .i64 ((1 + n1a + n2a + k : Nat) : Int)) ∧ Sl W w1.heap.size b4 A4b (0 * 3) (fun k => .int .i64 ((1 + n1a + n2a + n3a * 4 + k : Nat) : Int))) := fun W hW => by
    have z4 := hk.1.size
    exact ⟨((m1.sl.wide g.1.1 (by omega)).below hW (by omega)), ((m2.sl.wide g.2.1.1 (by omega)).below hW (by omega)), ((m3.sl.wide g.2.2.1.1 (by omega)).below hW (by omega)), fun k hk => by omega⟩
  have Z4 := Lib.hid hk.1.size
  obtain ⟨⟨x0, x1, x2, x3, x4, x5, x6⟩, ⟨y0, y1, y2, y3, y4, y5, y6⟩, _⟩ := QA.out w4 K4.out
  clear m1 m2 m3 m4 hk ob g z3 z2 OB3
  obtain ⟨tot, ht⟩ : ∃ tot : Nat, tot = 1 + n1a + n2a + n3a * 4 + 0 * 3 := ⟨_, rfl⟩
  rw [← ht]
  have HT := Lib.hid ht
  clear ht
  have HE : Hid (∀ W, Below w4.heap.size w4 W → Calls Try.prog 18 #[.agg #[.int .i64 q, .slice A1b n1a c1b, .slice A2b n2a c2b, .slice A3b n3a c3b, .int .i64 K.tick, .int .i64 K.run, .slice A4b 0 c4b], .int .i64 1] W fun e w' => e = .returned (.int .i64 (tot : Int)) ∧ Below W.heap.size W w') := fun W hW => by
    obtain ⟨h1, h2, h3, h4⟩ := MK.out W hW
    have := heldKernelResult_any w1.heap.size b4 A1b n1a c1b A2b n2a c2b A3b n3a c3b A4b 0 c4b q K.tick K.run 1 W (by have := SS.out; omega) (by have := SS.out; omega) (by have := SS.out; omega) (by omega) (by omega) h1 h2 h3 h4
    rw [← HT.out] at this
    exact this
  have t0 : ((tot : Int) < 0) = False := by simp
  have t1 : ((tot : Int) != (tot : Int)) = false := by simp
  go_wp2_with fail
  refine (HE.out _ (Below.refl _ _)).mono ?_
  rintro e w5 ⟨rfl, hb⟩
  have H5 := Lib.hid hb
  have K5 := Lib.hid (K4.out.then_below hb)
  obtain ⟨⟨x0, x1, x2, x3, x4, x5, x6⟩, ⟨y0, y1, y2, y3, y4, y5, y6⟩, _⟩ := QA.out w5 K5.out
  clear hb
  -- once more
  go_wp2_with fail
  refine (IP.out _).mono ?_
  rintro e wx ⟨⟨A1c, n1c, c1c, A2c, n2c, c2c, A3c, n3c, c3c, A4c, n4c, c4c, g1c, g2c, g3c, g4c⟩, rfl, ho, hb⟩
  unfold Rp.val
  dsimp only
  have l1 := ho.l1; have l2 := ho.l2; have l3 := ho.l3; have l4 := ho.l4
  dsimp only at l1 l2 l3 l4
  obtain rfl : n4c = 0 := by simp at l4; omega
  obtain rfl : n1a = n1c := by have := HL.out; omega
  obtain rfl : n2a = n2c := by have := HL.out; omega
  obtain rfl : n3a = n3c := by have := HL.out; omega
  obtain ⟨w6, hw6⟩ : ∃ w6, w6 = wx.alloc (.cells #[.int .i64 q, .slice A1c n1a c1c, .slice A2c n2a c2c, .slice A3c n3a c3c, .int .i64 K.tick, .int .i64 K.run, .slice A4c 0 c4c] 37) := ⟨_, rfl⟩
  obtain ⟨b7, hb7⟩ : ∃ b7, b7 = wx.heap.size := ⟨_, rfl⟩
  have Xb7 : Hid (w6.heap[b7]? = some (.cells #[.int .i64 q, .slice A1c n1a c1c, .slice A2c n2a c2c, .slice A3c n3a c3c, .int .i64 K.tick, .int .i64 K.run, .slice A4c 0 c4c] 37 (0, 0))) := by rw [hw6, hb7]; exact heap_alloc_new wx _
  have zw6 : w6.heap.size = b7 + 1 := by rw [hw6, hb7]; simp
  have BWw6 : Below wx.heap.size wx w6 := by rw [hw6]; exact below_new wx _
  have sz := hb.size
  have BB := hb.trans (BWw6.mono hb.size)
  have OC := Lib.hid (ho.kept (Kept.of_below BWw6 []) (by simp) (by simp) (by simp) (by simp))
  rw [← hb7] at OC
  have K6 := Lib.hid (K5.out.then_below BB)
  have H6 := Lib.hid (H5.out.trans (BB.mono H5.out.size))
  have j7 := Xb7.out
  have u0 := cell_of_row w6 _ 0 _ _ _ j7; have u1 := cell_of_row w6 _ 1 _ _ _ j7; have u2 := cell_of_row w6 _ 2 _ _ _ j7; have u3 := cell_of_row w6 _ 3 _ _ _ j7; have u4 := cell_of_row w6 _ 4 _ _ _ j7; have u5 := cell_of_row w6 _ 5 _ _ _ j7; have u6 := cell_of_row w6 _ 6 _ _ _ j7
  simp at u0 u1 u2 u3 u4 u5 u6
  obtain ⟨⟨x0, x1, x2, x3, x4, x5, x6⟩, ⟨y0, y1, y2, y3, y4, y5, y6⟩, oa6⟩ := QA.out w6 K6.out
  have OA6 := Lib.hid oa6
  have HW6 := Lib.hid hw6; have HB7 := Lib.hid hb7
  clear hw6 hb7 zw6 BWw6 ho hb l1 l2 l3 l4 sz BB j7 oa6 Xb7
  go_upto_region 14 with (fail)
  rw [← HW6.out, ← HB7.out]
  clear HW6 HB7
  go_wp2_with fail
  refine (eqKernelResult_same w5.heap.size b7 w.heap.size b3 A1c n1a c1c A2c n2a c2c A3c n3a c3c A4c 0 c4c A1a c1a A2a c2a A3a c3a A4a c4a q K.tick K.run K [] _ (by have := SS.out; omega) (by have := SS.out; omega) (by have := SS.out; omega) (by omega) OC.out.kread OA6.out.kread (fun k hk => by omega) (fun k hk => by omega)).mono ?_
  rintro e w7 ⟨rfl, hb⟩
  have K7 := Lib.hid (K6.out.then_below hb)
  have H7 := Lib.hid (H6.out.trans (hb.mono H6.out.size))
  obtain ⟨⟨x0, x1, x2, x3, x4, x5, x6⟩, ⟨y0, y1, y2, y3, y4, y5, y6⟩, _⟩ := QA.out w7 K7.out
  clear hb u0 u1 u2 u3 u4 u5 u6
  go_wp2_with fail
  refine (HE.out _ H7.out).mono ?_
  rintro e w8 ⟨rfl, hb⟩
  have FR := Lib.hid (UP.out _ (K7.out.then_below hb))
  clear hb
  go_wp2
  go_ret
  exact ⟨rfl, FR.out⟩

end Go.Proofs.Yteigjjgekkcfkaa
