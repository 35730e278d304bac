/-
  The model's l3Copy, l3Call and DoCall.
-/
import Derived.StillTailTactics
import Derived.Test.YtckapndpefkcgaaGreatKer2
import Derived.Test.YtckapndpefkcgaaGreatSpec3c
import Derived.Test.YtckapndpefkcgaaGreatSpec1c
set_option maxHeartbeats 1000000
namespace Go.Proofs.YtckapndpefkcgaaGreat
open Go.RowKit
set_option maxRecDepth 100000

def bvals (xs : List Bool) : List Value := xs.map Value.bool
theorem bvals_get (xs : List Bool) (k : Nat) (h : k < xs.length) : (bvals xs)[k]? = some (.bool (gb xs k)) := by
  simp [bvals, h, gb_lt xs k h]
theorem bvals_getD (xs : List Bool) (k : Nat) (h : k < xs.length) : (bvals xs).getD k undef = .bool (gb xs k) := by
  rw [List.getD_eq_getElem?_getD, bvals_get xs k h]; rfl
theorem Tryz.info_b4 : (Tryz.prog.info? 4).map (fun i => (i.zero, i.size, i.bytes)) = some (some (.bool false), 1, 1) := by kernel_rfl
theorem Tryz.info_a4 : (Tryz.prog.info? 68).map (fun i => (i.zero, i.size, i.bytes)) = some (some (.agg #[.int .i64 0, .int .i64 0, .int .i64 0, .int .i64 0]), 4, 32) := by kernel_rfl

set_option maxHeartbeats 2000000 in
theorem l3Copy_any (g lo hi : Nat) (A1 : Option Addr) (n1 c1 : Nat) (A2 : Option Addr) (c2 : Nat) (A3 : Option Addr) (c3 : Nat) (t r : Int) (K : Ker) (w : World) (hbox : w.heap[g]? = some (.cells #[.slice A1 n1 c1, .slice A2 4 c2, .slice A3 4 c3, .int .i64 t, .int .i64 r] 39 (0, 0)))
    (h : KRead w lo hi A1 n1 A2 4 A3 4 K) (hA : A1 = none → c1 = 0) (hn : n1 ≤ 12) (hn0 : 1 ≤ n1) :
    Calls Tryz.prog 74 #[.pointer (some ⟨g, 0, none⟩)] w fun e w' => ∃ p : Kp, e = .returned (.agg #[.slice p.A1 p.n1 p.c1, .slice p.A2 4 p.c2, .slice p.A3 4 p.c3, .int .i64 t, .int .i64 r]) ∧ KOwn w' p K ∧
      (w.heap.size ≤ p.g1 ∧ w.heap.size ≤ p.g2 ∧ w.heap.size ≤ p.g3 ∧ p.g1 < w'.heap.size ∧ p.g2 < w'.heap.size ∧ p.g3 < w'.heap.size) ∧ Below w.heap.size w w' := by
  obtain ⟨⟨l1, l2, l3⟩, s1, s2, s3⟩ := h
  have S1 := Lib.hid s1.lt
  have hg : g < w.heap.size := (Array.getElem?_eq_some_iff.1 hbox).1
  have L1 := Lib.hid l1; have L2 := Lib.hid l2; have L3 := Lib.hid l3
  obtain ⟨b2, o2, rfl, x2, y2, d2⟩ := s2.lt.at_ (show 0 < 4 by omega)
  obtain ⟨b3, o3, rfl, x3, y3, d3⟩ := s3.lt.at_ (show 0 < 4 * 4 by omega)
  have D2 := Lib.hid d2; have D3 := Lib.hid d3
  clear s1 s2 s3 d2 d3
  obtain ⟨ib, hib, hzb, hsb, hbb⟩ := info_parts Tryz.info_b4
  obtain ⟨ia, hia, hza, hsa, hba⟩ := info_parts Tryz.info_a4
  have QS : Hid (∀ W, Below w.heap.size w W → W.cell? ⟨g, 0, none⟩ = some (.slice A1 n1 c1) ∧ W.cell? ⟨g, 1, none⟩ = some (.slice (some ⟨b2, o2, none⟩) 4 c2) ∧ W.cell? ⟨g, 2, none⟩ = some (.slice (some ⟨b3, o3, none⟩) 4 c3) ∧ W.cell? ⟨g, 3, none⟩ = some (.int .i64 t) ∧ W.cell? ⟨g, 4, none⟩ = some (.int .i64 r)) := fun W hB => by
    have k := (hB.block g hg).trans hbox
    exact ⟨cell_of_row W g 0 _ _ _ k, cell_of_row W g 1 _ _ _ k, cell_of_row W g 2 _ _ _ k, cell_of_row W g 3 _ _ _ k, cell_of_row W g 4 _ _ _ k⟩
  have B1 : Hid (∀ o, Below w.heap.size w (w.alloc o)) := fun o => below_new w o
  have B2 : Hid (∀ o o', Below w.heap.size w ((w.alloc o).alloc o')) := fun o o' => ((Below.refl _ _).alloc (Nat.le_refl _) o).alloc (by simp) o'
  have Z0 : Hid (∀ o', ((w.alloc (.cells #[.slice none 0 0, .slice none 0 0, .slice none 0 0, .int .i64 0, .int .i64 0] 39)).alloc o').heap[w.heap.size]? = some (.cells #[.slice none 0 0, .slice none 0 0, .slice none 0 0, .int .i64 0, .int .i64 0] 39 (0, 0))) := fun o' => heap_alloc2_old w _ _
  have X0 : Hid (∀ o o', ((w.alloc o).alloc o').heap[w.heap.size + 1]? = some o') := fun o o' => heap_alloc2_new w o o'
  obtain ⟨q0, q1, q2, q3, q4⟩ := QS.out _ (B1.out (.cells #[.slice none 0 0, .slice none 0 0, .slice none 0 0, .int .i64 0, .int .i64 0] 39))
  go_enter Tryz.func74, Tryz.ntmps74
  go_wp2_with fail
  refine (l1Ints_any lo (min hi w.heap.size) A1 n1 c1 K.os _ (by omega) L1.out hA (S1.out.below (B2.out _ _) (Nat.min_le_right _ _))).mono ?_
  rintro e w3 ⟨A1', c1', rfl, hnil, hm, hb⟩
  simp only [World.size_alloc] at hm hb
  obtain ⟨g1, u1, u2, u3, m1⟩ := hm.one (by omega)
  have X3 := (hb.block (w.heap.size + 1) (by omega)).trans (X0.out (.cells #[.slice none 0 0, .slice none 0 0, .slice none 0 0, .int .i64 0, .int .i64 0] 39) (.cells #[.slice A1 n1 c1, .slice (some ⟨b2, o2, none⟩) 4 c2, .slice (some ⟨b3, o3, none⟩) 4 c3, .int .i64 t, .int .i64 r] 39))
  have Z3 := (hb.block w.heap.size (by omega)).trans (Z0.out (.cells #[.slice A1 n1 c1, .slice (some ⟨b2, o2, none⟩) 4 c2, .slice (some ⟨b3, o3, none⟩) 4 c3, .int .i64 t, .int .i64 r] 39))
  have s3 : w.heap.size + 2 ≤ w3.heap.size := by have := hb.size; simp at this; omega
  have BB3 : Below w.heap.size w w3 := (B2.out _ _).trans (hb.mono (by omega))
  have x0 := cell_of_row w3 _ 0 _ _ _ X3
  have f0 := frozen_of_row w3 _ 0 _ _ X3
  simp at x0
  obtain ⟨w4, hw4⟩ : ∃ w4, w4 = w3.setCell ⟨w.heap.size + 1, 0, none⟩ (.slice A1' n1 c1') := ⟨_, rfl⟩
  have X4 : w4.heap[w.heap.size + 1]? = some (.cells #[.slice A1' n1 c1', .slice (some ⟨b2, o2, none⟩) 4 c2, .slice (some ⟨b3, o3, none⟩) 4 c3, .int .i64 t, .int .i64 r] 39 (0, 0)) := by rw [hw4]; exact heap_setCell_same w3 _ 0 _ _ _ X3
  have Z4 : w4.heap[w.heap.size]? = some (.cells #[.slice none 0 0, .slice none 0 0, .slice none 0 0, .int .i64 0, .int .i64 0] 39 (0, 0)) := by rw [hw4]; exact (Below.heap_setCell w3 ⟨w.heap.size + 1, 0, none⟩ _ w.heap.size (by simp)).trans Z3
  have BB4 : Below w.heap.size w w4 := by rw [hw4]; exact BB3.setCell (p := ⟨w.heap.size + 1, 0, none⟩) (by simp) _
  have M4 : Mine w4 g1 (g1 + 1) 2 A1' n1 (fun k => .int .i64 (gi K.os k)) := by rw [hw4]; exact m1.far (p := ⟨w.heap.size + 1, 0, none⟩) (by simp; omega) _
  have s4 : w4.heap.size = w3.heap.size := by rw [hw4]; simp
  have ownb : (w4.alloc (.cells #[] 4)).ownsRow w4.heap.size 4 1 (.slice (some ⟨w4.heap.size, 0, none⟩) 0 0) 0 [] :=
    ⟨rfl, .inr ⟨w4.heap.size, 0, #[], rfl, Nat.le_refl _, heap_alloc_new _ _, Nat.le_refl _, by simp [maxLen], rfl, rfl⟩⟩
  have NWb : ∀ j u, (bvals K.al)[j]? = some u → (w4.alloc (.cells #[] 4)).cell? ((⟨b2, o2, none⟩ : Addr).add j) = some u := by
    intro j u hu
    have hj : j < 4 := by have := (List.getElem?_eq_some_iff.1 hu).1; simp [bvals, L2.out] at this; omega
    rw [bvals_get K.al j (by rw [L2.out]; exact hj)] at hu
    injection hu with hu
    subst hu
    rw [Go.WideShapes.add_plain]
    exact ((BB4.alloc (by omega) _).cell (p := ⟨b2, o2 + j, none⟩) (by simp; omega)).trans (D2.out j hj)
  have ONb : ∀ u ∈ bvals K.al, u.oneCell' = true := by
    intro u hu
    simp only [bvals, List.mem_map] at hu
    obtain ⟨_, _, rfl⟩ := hu
    rfl
  have LNb : (bvals K.al).length = 4 * 1 := by simp [bvals, L2.out]
  rw [s4] at ownb
  have Q4 := QS.out (w4.alloc (.cells #[] 4)) (BB4.alloc (by omega) _)
  have OB := Lib.hid ownb; have NB := Lib.hid NWb; have OO := Lib.hid ONb; have LB := Lib.hid LNb
  have HX4 := Lib.hid X4; have HZ4 := Lib.hid Z4; have HB4 := Lib.hid BB4; have HM4 := Lib.hid M4; have HNIL := Lib.hid hnil
  clear hm hb m1 X3 Z3 BB3 X4 Z4 BB4 M4 ownb NWb ONb LNb q0 q1 q2 q3 q4 hnil
  have q1 : ((w3.setCell ⟨w.heap.size + 1, 0, none⟩ (.slice A1' n1 c1')).alloc (.cells #[] 4)).cell? ⟨g, 1, none⟩ = some (.slice (some ⟨b2, o2, none⟩) 4 c2) := by rw [← hw4]; exact Q4.2.1
  clear Q4
  go_upto_region 4 with
    (at_builtin
     rw [← hw4]
     clear hw4 q1 x0 f0
     refine wpList_append_own _ rfl (.tmp 13) (.tmp 17) 36 rfl w3.heap.size 4 ib (.bool false) 1 1 Tryz.underlying36 hib hzb hsb hbb rfl (by decide) _ 0 [] rfl OB.out ⟨b2, o2, none⟩ 4 c2 (bvals K.al) rfl LB.out NB.out OO.out (by unfold maxLen; omega) (by omega) (by simp; omega) ?_
     intro v5 w5 hown hgrow _
     simp only [Nat.zero_add, List.nil_append] at hown
     have hb : Below w4.heap.size w4 w5 := (below_new w4 _).grown hgrow (by simp) (fun k hk => by have hk' : some w3.heap.size = some k := hk; injection hk' with e; omega)
     obtain ⟨A2', c2', g2, rfl, _, _, u4, m2, a2, u5⟩ := mine_of_owns hown
     have u5 : g2 < w5.heap.size := u5 (fun h => by have := a2 h; omega)
     have m2 := m2.congr (f' := fun k => .bool (gb K.al k)) (fun k hk => bvals_getD K.al k (by rw [L2.out]; omega))
     have X5 := (hb.block (w.heap.size + 1) (by omega)).trans HX4.out
     have Z5 := (hb.block w.heap.size (by omega)).trans HZ4.out
     have BB5 : Below w.heap.size w w5 := HB4.out.trans (hb.mono (by omega))
     have M5 := HM4.out.below hb (by omega)
     have s5 : w4.heap.size ≤ w5.heap.size := by have := hb.size; omega
     have x1 := cell_of_row w5 _ 1 _ _ _ X5
     have f1 := frozen_of_row w5 _ 1 _ _ X5
     simp at x1)
  obtain ⟨w6, hw6⟩ : ∃ w6, w6 = w5.setCell ⟨w.heap.size + 1, 1, none⟩ (.slice A2' 4 c2') := ⟨_, rfl⟩
  have X6 : w6.heap[w.heap.size + 1]? = some (.cells #[.slice A1' n1 c1', .slice A2' 4 c2', .slice (some ⟨b3, o3, none⟩) 4 c3, .int .i64 t, .int .i64 r] 39 (0, 0)) := by rw [hw6]; exact heap_setCell_same w5 _ 1 _ _ _ X5
  have Z6 : w6.heap[w.heap.size]? = some (.cells #[.slice none 0 0, .slice none 0 0, .slice none 0 0, .int .i64 0, .int .i64 0] 39 (0, 0)) := by rw [hw6]; exact (Below.heap_setCell w5 ⟨w.heap.size + 1, 1, none⟩ _ w.heap.size (by simp)).trans Z5
  have BB6 : Below w.heap.size w w6 := by rw [hw6]; exact BB5.setCell (p := ⟨w.heap.size + 1, 1, none⟩) (by simp) _
  have M6 : Mine w6 g1 (g1 + 1) 2 A1' n1 (fun k => .int .i64 (gi K.os k)) := by rw [hw6]; exact M5.far (p := ⟨w.heap.size + 1, 1, none⟩) (by simp; omega) _
  have N6 : Mine w6 g2 (g2 + 1) 4 A2' 4 (fun k => .bool (gb K.al k)) := by rw [hw6]; exact m2.far (p := ⟨w.heap.size + 1, 1, none⟩) (by simp; omega) _
  have s6 : w6.heap.size = w5.heap.size := by rw [hw6]; simp
  have owna : (w6.alloc (.cells #[] 68)).ownsRow w6.heap.size 68 4 (.slice (some ⟨w6.heap.size, 0, none⟩) 0 0) 0 [] :=
    ⟨rfl, .inr ⟨w6.heap.size, 0, #[], rfl, Nat.le_refl _, heap_alloc_new _ _, Nat.le_refl _, by simp [maxLen], rfl, rfl⟩⟩
  have NWa : ∀ j u, (vals K.ac)[j]? = some u → (w6.alloc (.cells #[] 68)).cell? ((⟨b3, o3, none⟩ : Addr).add j) = some u := by
    intro j u hu
    have hj : j < 16 := by have := (List.getElem?_eq_some_iff.1 hu).1; simp [vals, L3.out] at this; omega
    rw [vals_get K.ac j (by rw [L3.out]; exact hj)] at hu
    injection hu with hu
    subst hu
    rw [Go.WideShapes.add_plain]
    exact ((BB6.alloc (by omega) _).cell (p := ⟨b3, o3 + j, none⟩) (by simp; omega)).trans (D3.out j hj)
  have ONa : ∀ u ∈ vals K.ac, u.oneCell' = true := by
    intro u hu
    simp only [vals, List.mem_map] at hu
    obtain ⟨_, _, rfl⟩ := hu
    rfl
  have LNa : (vals K.ac).length = 4 * 4 := by simp [vals, L3.out]
  rw [s6] at owna
  have Q6 := QS.out (w6.alloc (.cells #[] 68)) (BB6.alloc (by omega) _)
  have OA := Lib.hid owna; have NA := Lib.hid NWa; have OO := Lib.hid ONa; have LA := Lib.hid LNa
  have HX6 := Lib.hid X6; have HZ6 := Lib.hid Z6; have HB6 := Lib.hid BB6; have HM6 := Lib.hid M6; have HN6 := Lib.hid N6
  clear hb hown hgrow m2 X5 Z5 BB5 M5 X6 Z6 BB6 M6 N6 owna NWa ONa LNa OB NB LB HX4 HZ4 HB4 HM4
  have q2 : ((w5.setCell ⟨w.heap.size + 1, 1, none⟩ (.slice A2' 4 c2')).alloc (.cells #[] 68)).cell? ⟨g, 2, none⟩ = some (.slice (some ⟨b3, o3, none⟩) 4 c3) := by rw [← hw6]; exact Q6.2.2.1
  clear Q6
  go_upto_region 5 with
    (at_builtin
     rw [← hw6]
     clear hw6 q2 x1 f1
     refine wpList_append_own _ rfl (.tmp 20) (.tmp 24) 37 rfl w5.heap.size 68 ia (.agg #[.int .i64 0, .int .i64 0, .int .i64 0, .int .i64 0]) 4 32 Tryz.underlying37 hia hza hsa hba rfl (by decide) _ 0 [] rfl OA.out ⟨b3, o3, none⟩ 4 c3 (vals K.ac) rfl LA.out NA.out OO.out (by unfold maxLen; omega) (by omega) (by simp; omega) ?_
     intro v7 w7 hown hgrow _
     simp only [Nat.zero_add, List.nil_append] at hown
     have hb : Below w6.heap.size w6 w7 := (below_new w6 _).grown hgrow (by simp) (fun k hk => by have hk' : some w5.heap.size = some k := hk; injection hk' with e; omega)
     obtain ⟨A3', c3', g3, rfl, _, _, u6, m3, a3, u7⟩ := mine_of_owns hown
     have u7 : g3 < w7.heap.size := u7 (fun h => by have := a3 h; omega)
     have m3 := m3.congr (f' := fun k => .int .i64 (gi K.ac k)) (fun k hk => vals_getD K.ac k (by rw [L3.out]; omega))
     have X7 := (hb.block (w.heap.size + 1) (by omega)).trans HX6.out
     have Z7 := (hb.block w.heap.size (by omega)).trans HZ6.out
     have BB7 : Below w.heap.size w w7 := HB6.out.trans (hb.mono (by omega))
     have M7 := HM6.out.below hb (by omega)
     have N7 := HN6.out.below hb (by omega)
     have s7 : w6.heap.size ≤ w7.heap.size := by have := hb.size; omega
     have x2 := cell_of_row w7 _ 2 _ _ _ X7
     have f2 := frozen_of_row w7 _ 2 _ _ X7
     simp at x2)
  obtain ⟨w8, hw8⟩ : ∃ w8, w8 = w7.setCell ⟨w.heap.size + 1, 2, none⟩ (.slice A3' 4 c3') := ⟨_, rfl⟩
  have X8 : w8.heap[w.heap.size + 1]? = some (.cells #[.slice A1' n1 c1', .slice A2' 4 c2', .slice A3' 4 c3', .int .i64 t, .int .i64 r] 39 (0, 0)) := by rw [hw8]; exact heap_setCell_same w7 _ 2 _ _ _ X7
  have Z8 : w8.heap[w.heap.size]? = some (.cells #[.slice none 0 0, .slice none 0 0, .slice none 0 0, .int .i64 0, .int .i64 0] 39 (0, 0)) := by rw [hw8]; exact (Below.heap_setCell w7 ⟨w.heap.size + 1, 2, none⟩ _ w.heap.size (by simp)).trans Z7
  have BB8 : Below w.heap.size w w8 := by rw [hw8]; exact BB7.setCell (p := ⟨w.heap.size + 1, 2, none⟩) (by simp) _
  have M8 : Mine w8 g1 (g1 + 1) 2 A1' n1 (fun k => .int .i64 (gi K.os k)) := by rw [hw8]; exact M7.far (p := ⟨w.heap.size + 1, 2, none⟩) (by simp; omega) _
  have N8 : Mine w8 g2 (g2 + 1) 4 A2' 4 (fun k => .bool (gb K.al k)) := by rw [hw8]; exact N7.far (p := ⟨w.heap.size + 1, 2, none⟩) (by simp; omega) _
  have O8 : Mine w8 g3 (g3 + 1) 68 A3' 16 (fun k => .int .i64 (gi K.ac k)) := by rw [hw8]; exact m3.far (p := ⟨w.heap.size + 1, 2, none⟩) (by simp; omega) _
  have s8 : w8.heap.size = w7.heap.size := by rw [hw8]; simp
  have e0 := cell_of_row w8 _ 0 _ _ _ X8; have e1 := cell_of_row w8 _ 1 _ _ _ X8; have e2 := cell_of_row w8 _ 2 _ _ _ X8; have e3 := cell_of_row w8 _ 3 _ _ _ X8; have e4 := cell_of_row w8 _ 4 _ _ _ X8
  have z0 := cell_of_row w8 _ 0 _ _ _ Z8; have z1 := cell_of_row w8 _ 1 _ _ _ Z8; have z2 := cell_of_row w8 _ 2 _ _ _ Z8; have z3 := cell_of_row w8 _ 3 _ _ _ Z8; have z4 := cell_of_row w8 _ 4 _ _ _ Z8
  have y0 := frozen_of_row w8 _ 0 _ _ Z8; have y1 := frozen_of_row w8 _ 1 _ _ Z8; have y2 := frozen_of_row w8 _ 2 _ _ Z8; have y3 := frozen_of_row w8 _ 3 _ _ Z8; have y4 := frozen_of_row w8 _ 4 _ _ Z8
  simp at e0 e1 e2 e3 e4 z0 z1 z2 z3 z4
  have HZ := Lib.hid Z8; have HB := Lib.hid BB8; have HM := Lib.hid M8; have HN := Lib.hid N8; have HO := Lib.hid O8
  clear hb hown hgrow m3 X7 Z7 BB7 M7 N7 X8 Z8 BB8 M8 N8 O8 OA NA LA HX6 HZ6 HB6 HM6 HN6
  rw [← hw8]
  clear hw8 x2 f2
  go_wp2
  refine bodyPost_ret (results_cell_row rfl _ _ w.heap.size _ _ (0, 0) _ rfl (blk5_set HZ.out _ _ _ _ _) Tryz.underlying39 rfl (by kernel_rfl)) rfl ⟨⟨A1', n1, c1', A2', c2', A3', c3', g1, g2, g3⟩, rfl, ⟨L1.out, L2.out, L3.out, HNIL.out, ?_, ?_, ?_, ?_, ?_, ?_⟩, ⟨?_, ?_, ?_, ?_, ?_, ?_⟩, below5 HB.out (Nat.le_refl _) _ _ _ _ _⟩
  · exact far5 HM.out (by omega) _ _ _ _ _
  · exact far5 HN.out (by omega) _ _ _ _ _
  · exact far5 HO.out (by omega) _ _ _ _ _
  all_goals (first | (simp; omega) | omega)

end Go.Proofs.YtckapndpefkcgaaGreat
