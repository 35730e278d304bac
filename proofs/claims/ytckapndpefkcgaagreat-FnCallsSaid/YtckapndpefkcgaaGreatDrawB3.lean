/-
  An event with a fault is drawn. For codes of at most 2^20 bytes.
-/
import Derived.Test.YtckapndpefkcgaaGreatDrawA3
set_option maxHeartbeats 1000000
namespace Go.Proofs.YtckapndpefkcgaaGreat
open Go.RowKit
set_option maxRecDepth 100000

structure EF3 (w W : World) (g s : Nat) (A : Option Addr) (k c a : Nat) (u0 u1 u2 u3 u4 u5 u6 : Int) : Prop where
  kb : W.heap[s]? = some (.cells #[.int .i64 u0, .int .i64 u1, .int .i64 u2, .int .i64 u3, .int .i64 u4, .int .i64 u5, .int .i64 u6] 57 (0, 0))
  kr : W.heap[w.heap.size]? = some (.cells #[.int .i64 0, .int .i64 0, .int .i64 0, .int .i64 0, .int .i64 0, .int .i64 0, .int .i64 0] 57 (0, 0))
  sr : Src W g A k c a
  on : Below w.heap.size w W
  wg : w.heap.size < g
  gs : g < s
section
variable {w W W' : World} {g s k c a a' : Nat} {A : Option Addr} {u0 u1 u2 u3 u4 u5 u6 : Int}
theorem EF3.step (h : EF3 w W g s A k c a u0 u1 u2 u3 u4 u5 u6) (hs : Src W' g A k c a') (ho : Only g (g + 1) W W') : EF3 w W' g s A k c a' u0 u1 u2 u3 u4 u5 u6 :=
  have z := (Array.getElem?_eq_some_iff.1 h.kb).1
  ⟨(ho.2 s (by have := h.gs; omega) z).trans h.kb, (ho.1.block w.heap.size h.wg).trans h.kr, hs, h.on.trans (ho.1.mono (by have := h.wg; omega)), h.wg, h.gs⟩
theorem EF3.new (h : EF3 w W g s A k c a u0 u1 u2 u3 u4 u5 u6) (o : Obj) : EF3 w (W.alloc o) g s A k c a u0 u1 u2 u3 u4 u5 u6 :=
  ⟨(Below.heap_alloc W o s (Array.getElem?_eq_some_iff.1 h.kb).1).trans h.kb, (Below.heap_alloc W o _ (Array.getElem?_eq_some_iff.1 h.kr).1).trans h.kr, h.sr.alloc o, h.on.trans ((below_new W o).mono h.on.size), h.wg, h.gs⟩
theorem EF3.calls (h : EF3 w W g s A k c a u0 u1 u2 u3 u4 u5 u6) (hb : Below W.heap.size W W') : EF3 w W' g s A k c a u0 u1 u2 u3 u4 u5 u6 :=
  ⟨(hb.block s (Array.getElem?_eq_some_iff.1 h.kb).1).trans h.kb, (hb.block _ (Array.getElem?_eq_some_iff.1 h.kr).1).trans h.kr, h.sr.below hb, h.on.trans (hb.mono h.on.size), h.wg, h.gs⟩
theorem EF3.set0 (h : EF3 w W g s A k c a u0 u1 u2 u3 u4 u5 u6) (v : Int) : EF3 w (W.setCell ⟨s, 0, none⟩ (.int .i64 v)) g s A k c a v u1 u2 u3 u4 u5 u6 :=
  ⟨heap_setCell_same _ _ 0 _ _ _ h.kb, (Below.heap_setCell _ _ _ _ (by simp; have := h.wg; have := h.gs; omega)).trans h.kr, h.sr.setOther3 (by have := h.gs; omega) 0 _, h.on.setCell (p := ⟨s, 0, none⟩) (by simp; have := h.wg; have := h.gs; omega) _, h.wg, h.gs⟩
theorem EF3.set1 (h : EF3 w W g s A k c a u0 u1 u2 u3 u4 u5 u6) (v : Int) : EF3 w (W.setCell ⟨s, 1, none⟩ (.int .i64 v)) g s A k c a u0 v u2 u3 u4 u5 u6 :=
  ⟨heap_setCell_same _ _ 1 _ _ _ h.kb, (Below.heap_setCell _ _ _ _ (by simp; have := h.wg; have := h.gs; omega)).trans h.kr, h.sr.setOther3 (by have := h.gs; omega) 1 _, h.on.setCell (p := ⟨s, 1, none⟩) (by simp; have := h.wg; have := h.gs; omega) _, h.wg, h.gs⟩
theorem EF3.set2 (h : EF3 w W g s A k c a u0 u1 u2 u3 u4 u5 u6) (v : Int) : EF3 w (W.setCell ⟨s, 2, none⟩ (.int .i64 v)) g s A k c a u0 u1 v u3 u4 u5 u6 :=
  ⟨heap_setCell_same _ _ 2 _ _ _ h.kb, (Below.heap_setCell _ _ _ _ (by simp; have := h.wg; have := h.gs; omega)).trans h.kr, h.sr.setOther3 (by have := h.gs; omega) 2 _, h.on.setCell (p := ⟨s, 2, none⟩) (by simp; have := h.wg; have := h.gs; omega) _, h.wg, h.gs⟩
theorem EF3.set3 (h : EF3 w W g s A k c a u0 u1 u2 u3 u4 u5 u6) (v : Int) : EF3 w (W.setCell ⟨s, 3, none⟩ (.int .i64 v)) g s A k c a u0 u1 u2 v u4 u5 u6 :=
  ⟨heap_setCell_same _ _ 3 _ _ _ h.kb, (Below.heap_setCell _ _ _ _ (by simp; have := h.wg; have := h.gs; omega)).trans h.kr, h.sr.setOther3 (by have := h.gs; omega) 3 _, h.on.setCell (p := ⟨s, 3, none⟩) (by simp; have := h.wg; have := h.gs; omega) _, h.wg, h.gs⟩
theorem EF3.set4 (h : EF3 w W g s A k c a u0 u1 u2 u3 u4 u5 u6) (v : Int) : EF3 w (W.setCell ⟨s, 4, none⟩ (.int .i64 v)) g s A k c a u0 u1 u2 u3 v u5 u6 :=
  ⟨heap_setCell_same _ _ 4 _ _ _ h.kb, (Below.heap_setCell _ _ _ _ (by simp; have := h.wg; have := h.gs; omega)).trans h.kr, h.sr.setOther3 (by have := h.gs; omega) 4 _, h.on.setCell (p := ⟨s, 4, none⟩) (by simp; have := h.wg; have := h.gs; omega) _, h.wg, h.gs⟩
theorem EF3.set5 (h : EF3 w W g s A k c a u0 u1 u2 u3 u4 u5 u6) (v : Int) : EF3 w (W.setCell ⟨s, 5, none⟩ (.int .i64 v)) g s A k c a u0 u1 u2 u3 u4 v u6 :=
  ⟨heap_setCell_same _ _ 5 _ _ _ h.kb, (Below.heap_setCell _ _ _ _ (by simp; have := h.wg; have := h.gs; omega)).trans h.kr, h.sr.setOther3 (by have := h.gs; omega) 5 _, h.on.setCell (p := ⟨s, 5, none⟩) (by simp; have := h.wg; have := h.gs; omega) _, h.wg, h.gs⟩
theorem EF3.set6 (h : EF3 w W g s A k c a u0 u1 u2 u3 u4 u5 u6) (v : Int) : EF3 w (W.setCell ⟨s, 6, none⟩ (.int .i64 v)) g s A k c a u0 u1 u2 u3 u4 u5 v :=
  ⟨heap_setCell_same _ _ 6 _ _ _ h.kb, (Below.heap_setCell _ _ _ _ (by simp; have := h.wg; have := h.gs; omega)).trans h.kr, h.sr.setOther3 (by have := h.gs; omega) 6 _, h.on.setCell (p := ⟨s, 6, none⟩) (by simp; have := h.wg; have := h.gs; omega) _, h.wg, h.gs⟩
end

def EventF (w : World) (e : Ending) (w' : World) : Prop := ∃ x0 x1 x2 x3 x4 x5 x6 : Int, e = .returned (.agg #[.int .i64 x0, .int .i64 x1, .int .i64 x2, .int .i64 x3, .int .i64 x4, .int .i64 x5, .int .i64 x6]) ∧ Below w.heap.size w w'

set_option maxHeartbeats 4000000 in
theorem DrawEventFault_any (lo hi : Nat) (A : Option Addr) (k c : Nat) (b : Nat → Int) (w : World) (hk : k ≤ 1048576)
    (hb : ∀ j, 0 ≤ b j ∧ b j ≤ 255) (h : Sl w lo hi A k (fun j => .int .u8 (b j))) :
    Calls Tryz.prog 34 #[.slice A k c] w (EventF w) := by
  have HBY := Lib.hid hb
  have CD : Hid (∀ W, Below w.heap.size w W → Sl W lo (min hi w.heap.size) A k (fun j => .int .u8 (b j))) := fun W hW => h.lt.below hW (by omega)
  obtain ⟨w1, hw1⟩ : ∃ w1, w1 = w.alloc (.cells #[.int .i64 0, .int .i64 0, .int .i64 0, .int .i64 0, .int .i64 0, .int .i64 0, .int .i64 0] 57) := ⟨_, rfl⟩
  have K1 : Hid (w1.heap[w.heap.size]? = some (.cells #[.int .i64 0, .int .i64 0, .int .i64 0, .int .i64 0, .int .i64 0, .int .i64 0, .int .i64 0] 57 (0, 0))) := by show _ = _; rw [hw1]; exact heap_alloc_new w _
  have B1 : Hid (Below w.heap.size w w1) := by rw [hw1]; exact below_new w _
  have Z1 : Hid (w1.heap.size = w.heap.size + 1) := by show _ = _; rw [hw1]; simp
  have HW1 := Lib.hid hw1
  clear h hb hw1
  go_enter Tryz.func34, Tryz.ntmps34
  go_upto_region 1 with (fail)
  rw [← HW1.out]
  clear HW1
  have C1 := Lib.hid (l1Source_any A k c w1)
  go_wp2_with fail
  refine C1.out.mono ?_
  obtain ⟨g, hgz⟩ : ∃ g, g = w1.heap.size := ⟨_, rfl⟩
  rw [← hgz]
  have hwg : w.heap.size < g := by have := Z1.out; omega
  rintro e w2 ⟨rfl, hs1, hb1⟩
  have S2 := Lib.hid hs1
  have z2 := hs1.lt
  have B2 : Hid (Below w.heap.size w w2) := B1.out.trans (hb1.mono (by omega))
  have K2 : Hid (w2.heap[w.heap.size]? = some (.cells #[.int .i64 0, .int .i64 0, .int .i64 0, .int .i64 0, .int .i64 0, .int .i64 0, .int .i64 0] 57 (0, 0))) := (hb1.block _ (by omega)).trans K1.out
  clear hs1 hb1 C1 hgz
  have CC := Lib.hid (l3DrawAct_any lo (min hi w.heap.size) g A k c 0 b w2 hk (by omega) HBY.out (CD.out w2 B2.out) (by omega) S2.out)
  go_wp2_with fail
  refine CC.out.mono ?_
  rintro e w3 ⟨ax, ay, a, rfl, _, _, ha, hs, ho⟩
  have S3 := Lib.hid hs
  have B3 : Hid (Below w.heap.size w w3) := B2.out.trans (ho.1.mono (by omega))
  have K3 : Hid (w3.heap[w.heap.size]? = some (.cells #[.int .i64 0, .int .i64 0, .int .i64 0, .int .i64 0, .int .i64 0, .int .i64 0, .int .i64 0] 57 (0, 0))) := (ho.1.block w.heap.size hwg).trans K2.out
  clear hs ho CC S2 B2 K2
  obtain ⟨s, hsz⟩ : ∃ s, s = w3.heap.size := ⟨_, rfl⟩
  obtain ⟨w4, hw4⟩ : ∃ V, V = w3.alloc (.cells #[.int .i64 1, .int .i64 ax, .int .i64 ay, .int .i64 0, .int .i64 0, .int .i64 0, .int .i64 0] 57) := ⟨_, rfl⟩
  have J : Hid (EF3 w w4 g s A k c a 1 ax ay 0 0 0 0) := by
    rw [hw4]
    have z := S3.out.lt
    exact ⟨by rw [hsz]; exact heap_alloc_new w3 _, (Below.heap_alloc w3 _ _ (by omega)).trans K3.out, S3.out.alloc _, B3.out.trans ((below_new w3 _).mono (by omega)), hwg, by omega⟩
  have HW4 := Lib.hid hw4
  clear hw4
  go_upto_region 3 with (fail)
  rw [← HW4.out, ← hsz]
  clear HW4 hsz S3 B3 K3
  have CH := Lib.hid (l1Chance_any lo (min hi w.heap.size) g A k c a 3 b w4 (by omega) hk (by omega) HBY.out (CD.out w4 J.out.on) (by omega) J.out.sr)
  go_wp2_with fail
  refine CH.out.mono ?_
  rintro e w5 ⟨y, rfl, hs, ho⟩
  have J := Lib.hid (J.out.step hs ho)
  clear hs ho CH
  rcases y with _ | _
  · go_upto_region 5 with (fail)
    have CN := Lib.hid (l1Next_any lo (min hi w.heap.size) g A k c (a + 1) 10 b w5 (by omega) hk (by omega) HBY.out (CD.out w5 J.out.on) (by omega) J.out.sr)
    go_wp2_with fail
    refine CN.out.mono ?_
    rintro e w6 ⟨r, rfl, _, _, hs, ho⟩
    have J6 := Lib.hid (J.out.step hs ho)
    clear hs ho CN J
    by_cases r0 : r = 0
    · subst r0
      have CP := Lib.hid (pick_lit lo (min hi w.heap.size) g A k c (a + 1 + 1) 4 2 #[.int .i64 0, .int .i64 1, .int .i64 2, .int .i64 3] b [0, 1, 2, 3] w6 hk (by omega) HBY.out (CD.out w6 J6.out.on) (by have := J6.out.wg; omega) J6.out.sr rfl (by omega) (by omega) (fun q hq => by rcases (show q = 0 ∨ q = 1 ∨ q = 2 ∨ q = 3 by omega) with rfl | rfl | rfl | rfl <;> rfl))
      go_wp2_with fail
      refine CP.out.mono ?_
      rintro e w7 ⟨r9, _, rfl, hs, ho, _⟩
      generalize gi [0, 1, 2, 3] r9 = v
      have J7 := Lib.hid (J6.out.step hs ho)
      clear hs ho CP
      have q0 := cell_of_row w7 _ 0 _ _ _ J7.out.kb
      have q1 := cell_of_row w7 _ 1 _ _ _ J7.out.kb
      have q2 := cell_of_row w7 _ 2 _ _ _ J7.out.kb
      have q3 := cell_of_row w7 _ 3 _ _ _ J7.out.kb
      have q4 := cell_of_row w7 _ 4 _ _ _ J7.out.kb
      have q5 := cell_of_row w7 _ 5 _ _ _ J7.out.kb
      have q6 := cell_of_row w7 _ 6 _ _ _ J7.out.kb
      have qf0 := frozen_of_row w7 _ 0 _ _ J7.out.kb
      have qf1 := frozen_of_row w7 _ 1 _ _ J7.out.kb
      have qf2 := frozen_of_row w7 _ 2 _ _ J7.out.kb
      have qf3 := frozen_of_row w7 _ 3 _ _ J7.out.kb
      have qf4 := frozen_of_row w7 _ 4 _ _ J7.out.kb
      have qf5 := frozen_of_row w7 _ 5 _ _ J7.out.kb
      have qf6 := frozen_of_row w7 _ 6 _ _ J7.out.kb
      simp at q0 q1 q2 q3 q4 q5 q6
      obtain ⟨w8, hw8⟩ : ∃ V, V = w7.setCell ⟨s, 0, none⟩ (.int .i64 v) := ⟨_, rfl⟩
      have J8 : Hid (EF3 w w8 g s A k c (a + 1 + 1 + 1) v ax ay 0 0 0 0) := by rw [hw8]; exact J7.out.set0 v
      have HW8 := Lib.hid hw8
      clear hw8
      go_upto_region 12 with (fail)
      rw [← HW8.out]
      clear HW8 q0 q1 q2 q3 q4 q5 q6 qf0 qf1 qf2 qf3 qf4 qf5 qf6 J7 J6
      have q0 := cell_of_row w8 _ 0 _ _ _ J8.out.kb
      have q1 := cell_of_row w8 _ 1 _ _ _ J8.out.kb
      have q2 := cell_of_row w8 _ 2 _ _ _ J8.out.kb
      have q3 := cell_of_row w8 _ 3 _ _ _ J8.out.kb
      have q4 := cell_of_row w8 _ 4 _ _ _ J8.out.kb
      have q5 := cell_of_row w8 _ 5 _ _ _ J8.out.kb
      have q6 := cell_of_row w8 _ 6 _ _ _ J8.out.kb
      simp at q0 q1 q2 q3 q4 q5 q6
      have p0 := cell_of_row w8 _ 0 _ _ _ J8.out.kr
      have p1 := cell_of_row w8 _ 1 _ _ _ J8.out.kr
      have p2 := cell_of_row w8 _ 2 _ _ _ J8.out.kr
      have p3 := cell_of_row w8 _ 3 _ _ _ J8.out.kr
      have p4 := cell_of_row w8 _ 4 _ _ _ J8.out.kr
      have p5 := cell_of_row w8 _ 5 _ _ _ J8.out.kr
      have p6 := cell_of_row w8 _ 6 _ _ _ J8.out.kr
      have pf0 := frozen_of_row w8 _ 0 _ _ J8.out.kr
      have pf1 := frozen_of_row w8 _ 1 _ _ J8.out.kr
      have pf2 := frozen_of_row w8 _ 2 _ _ J8.out.kr
      have pf3 := frozen_of_row w8 _ 3 _ _ J8.out.kr
      have pf4 := frozen_of_row w8 _ 4 _ _ J8.out.kr
      have pf5 := frozen_of_row w8 _ 5 _ _ J8.out.kr
      have pf6 := frozen_of_row w8 _ 6 _ _ J8.out.kr
      simp at p0 p1 p2 p3 p4 p5 p6
      have HK := Lib.hid (heap_setCell_same _ w.heap.size 6 _ _ (.int .i64 0) (heap_setCell_same _ w.heap.size 5 _ _ (.int .i64 0) (heap_setCell_same _ w.heap.size 4 _ _ (.int .i64 0) (heap_setCell_same _ w.heap.size 3 _ _ (.int .i64 0) (heap_setCell_same _ w.heap.size 2 _ _ (.int .i64 ay) (heap_setCell_same _ w.heap.size 1 _ _ (.int .i64 ax) (heap_setCell_same w8 w.heap.size 0 _ _ (.int .i64 v) J8.out.kr)))))))
      have BF := Lib.hid (((((((J8.out.on.setCell (p := ⟨w.heap.size, 0, none⟩) (Nat.le_refl _) (.int .i64 v)).setCell (p := ⟨w.heap.size, 1, none⟩) (Nat.le_refl _) (.int .i64 ax)).setCell (p := ⟨w.heap.size, 2, none⟩) (Nat.le_refl _) (.int .i64 ay)).setCell (p := ⟨w.heap.size, 3, none⟩) (Nat.le_refl _) (.int .i64 0)).setCell (p := ⟨w.heap.size, 4, none⟩) (Nat.le_refl _) (.int .i64 0)).setCell (p := ⟨w.heap.size, 5, none⟩) (Nat.le_refl _) (.int .i64 0)).setCell (p := ⟨w.heap.size, 6, none⟩) (Nat.le_refl _) (.int .i64 0))
      clear J8
      go_wp2
      refine bodyPost_ret (results_cell_row rfl _ _ w.heap.size _ _ (0, 0) _ rfl HK.out Tryz.underlying57 rfl (by kernel_rfl)) rfl ?_
      exact ⟨v, ax, ay, 0, 0, 0, 0, rfl, BF.out⟩
    by_cases r1 : r = 1
    · subst r1
      have CP := Lib.hid (pick_lit lo (min hi w.heap.size) g A k c (a + 1 + 1) 4 2 #[.int .i64 0, .int .i64 1, .int .i64 3, .int .i64 4] b [0, 1, 3, 4] w6 hk (by omega) HBY.out (CD.out w6 J6.out.on) (by have := J6.out.wg; omega) J6.out.sr rfl (by omega) (by omega) (fun q hq => by rcases (show q = 0 ∨ q = 1 ∨ q = 2 ∨ q = 3 by omega) with rfl | rfl | rfl | rfl <;> rfl))
      go_wp2_with fail
      refine CP.out.mono ?_
      rintro e w7 ⟨r9, _, rfl, hs, ho, _⟩
      generalize gi [0, 1, 3, 4] r9 = v
      have J7 := Lib.hid (J6.out.step hs ho)
      clear hs ho CP
      have q0 := cell_of_row w7 _ 0 _ _ _ J7.out.kb
      have q1 := cell_of_row w7 _ 1 _ _ _ J7.out.kb
      have q2 := cell_of_row w7 _ 2 _ _ _ J7.out.kb
      have q3 := cell_of_row w7 _ 3 _ _ _ J7.out.kb
      have q4 := cell_of_row w7 _ 4 _ _ _ J7.out.kb
      have q5 := cell_of_row w7 _ 5 _ _ _ J7.out.kb
      have q6 := cell_of_row w7 _ 6 _ _ _ J7.out.kb
      have qf0 := frozen_of_row w7 _ 0 _ _ J7.out.kb
      have qf1 := frozen_of_row w7 _ 1 _ _ J7.out.kb
      have qf2 := frozen_of_row w7 _ 2 _ _ J7.out.kb
      have qf3 := frozen_of_row w7 _ 3 _ _ J7.out.kb
      have qf4 := frozen_of_row w7 _ 4 _ _ J7.out.kb
      have qf5 := frozen_of_row w7 _ 5 _ _ J7.out.kb
      have qf6 := frozen_of_row w7 _ 6 _ _ J7.out.kb
      simp at q0 q1 q2 q3 q4 q5 q6
      obtain ⟨w8, hw8⟩ : ∃ V, V = w7.setCell ⟨s, 1, none⟩ (.int .i64 v) := ⟨_, rfl⟩
      have J8 : Hid (EF3 w w8 g s A k c (a + 1 + 1 + 1) 1 v ay 0 0 0 0) := by rw [hw8]; exact J7.out.set1 v
      have HW8 := Lib.hid hw8
      clear hw8
      go_upto_region 12 with (fail)
      rw [← HW8.out]
      clear HW8 q0 q1 q2 q3 q4 q5 q6 qf0 qf1 qf2 qf3 qf4 qf5 qf6 J7 J6
      have q0 := cell_of_row w8 _ 0 _ _ _ J8.out.kb
      have q1 := cell_of_row w8 _ 1 _ _ _ J8.out.kb
      have q2 := cell_of_row w8 _ 2 _ _ _ J8.out.kb
      have q3 := cell_of_row w8 _ 3 _ _ _ J8.out.kb
      have q4 := cell_of_row w8 _ 4 _ _ _ J8.out.kb
      have q5 := cell_of_row w8 _ 5 _ _ _ J8.out.kb
      have q6 := cell_of_row w8 _ 6 _ _ _ J8.out.kb
      simp at q0 q1 q2 q3 q4 q5 q6
      have p0 := cell_of_row w8 _ 0 _ _ _ J8.out.kr
      have p1 := cell_of_row w8 _ 1 _ _ _ J8.out.kr
      have p2 := cell_of_row w8 _ 2 _ _ _ J8.out.kr
      have p3 := cell_of_row w8 _ 3 _ _ _ J8.out.kr
      have p4 := cell_of_row w8 _ 4 _ _ _ J8.out.kr
      have p5 := cell_of_row w8 _ 5 _ _ _ J8.out.kr
      have p6 := cell_of_row w8 _ 6 _ _ _ J8.out.kr
      have pf0 := frozen_of_row w8 _ 0 _ _ J8.out.kr
      have pf1 := frozen_of_row w8 _ 1 _ _ J8.out.kr
      have pf2 := frozen_of_row w8 _ 2 _ _ J8.out.kr
      have pf3 := frozen_of_row w8 _ 3 _ _ J8.out.kr
      have pf4 := frozen_of_row w8 _ 4 _ _ J8.out.kr
      have pf5 := frozen_of_row w8 _ 5 _ _ J8.out.kr
      have pf6 := frozen_of_row w8 _ 6 _ _ J8.out.kr
      simp at p0 p1 p2 p3 p4 p5 p6
      have HK := Lib.hid (heap_setCell_same _ w.heap.size 6 _ _ (.int .i64 0) (heap_setCell_same _ w.heap.size 5 _ _ (.int .i64 0) (heap_setCell_same _ w.heap.size 4 _ _ (.int .i64 0) (heap_setCell_same _ w.heap.size 3 _ _ (.int .i64 0) (heap_setCell_same _ w.heap.size 2 _ _ (.int .i64 ay) (heap_setCell_same _ w.heap.size 1 _ _ (.int .i64 v) (heap_setCell_same w8 w.heap.size 0 _ _ (.int .i64 1) J8.out.kr)))))))
      have BF := Lib.hid (((((((J8.out.on.setCell (p := ⟨w.heap.size, 0, none⟩) (Nat.le_refl _) (.int .i64 1)).setCell (p := ⟨w.heap.size, 1, none⟩) (Nat.le_refl _) (.int .i64 v)).setCell (p := ⟨w.heap.size, 2, none⟩) (Nat.le_refl _) (.int .i64 ay)).setCell (p := ⟨w.heap.size, 3, none⟩) (Nat.le_refl _) (.int .i64 0)).setCell (p := ⟨w.heap.size, 4, none⟩) (Nat.le_refl _) (.int .i64 0)).setCell (p := ⟨w.heap.size, 5, none⟩) (Nat.le_refl _) (.int .i64 0)).setCell (p := ⟨w.heap.size, 6, none⟩) (Nat.le_refl _) (.int .i64 0))
      clear J8
      go_wp2
      refine bodyPost_ret (results_cell_row rfl _ _ w.heap.size _ _ (0, 0) _ rfl HK.out Tryz.underlying57 rfl (by kernel_rfl)) rfl ?_
      exact ⟨1, v, ay, 0, 0, 0, 0, rfl, BF.out⟩
    by_cases r2 : r = 2
    · subst r2
      have CP := Lib.hid (pick_lit lo (min hi w.heap.size) g A k c (a + 1 + 1) 3 2 #[.int .i64 (-1), .int .i64 4, .int .i64 1] b [-1, 4, 1] w6 hk (by omega) HBY.out (CD.out w6 J6.out.on) (by have := J6.out.wg; omega) J6.out.sr rfl (by omega) (by omega) (fun q hq => by rcases (show q = 0 ∨ q = 1 ∨ q = 2 by omega) with rfl | rfl | rfl <;> rfl))
      go_wp2_with fail
      refine CP.out.mono ?_
      rintro e w7 ⟨r9, _, rfl, hs, ho, _⟩
      generalize gi [-1, 4, 1] r9 = v
      have J7 := Lib.hid (J6.out.step hs ho)
      clear hs ho CP
      have q0 := cell_of_row w7 _ 0 _ _ _ J7.out.kb
      have q1 := cell_of_row w7 _ 1 _ _ _ J7.out.kb
      have q2 := cell_of_row w7 _ 2 _ _ _ J7.out.kb
      have q3 := cell_of_row w7 _ 3 _ _ _ J7.out.kb
      have q4 := cell_of_row w7 _ 4 _ _ _ J7.out.kb
      have q5 := cell_of_row w7 _ 5 _ _ _ J7.out.kb
      have q6 := cell_of_row w7 _ 6 _ _ _ J7.out.kb
      have qf0 := frozen_of_row w7 _ 0 _ _ J7.out.kb
      have qf1 := frozen_of_row w7 _ 1 _ _ J7.out.kb
      have qf2 := frozen_of_row w7 _ 2 _ _ J7.out.kb
      have qf3 := frozen_of_row w7 _ 3 _ _ J7.out.kb
      have qf4 := frozen_of_row w7 _ 4 _ _ J7.out.kb
      have qf5 := frozen_of_row w7 _ 5 _ _ J7.out.kb
      have qf6 := frozen_of_row w7 _ 6 _ _ J7.out.kb
      simp at q0 q1 q2 q3 q4 q5 q6
      obtain ⟨w8, hw8⟩ : ∃ V, V = w7.setCell ⟨s, 2, none⟩ (.int .i64 v) := ⟨_, rfl⟩
      have J8 : Hid (EF3 w w8 g s A k c (a + 1 + 1 + 1) 1 ax v 0 0 0 0) := by rw [hw8]; exact J7.out.set2 v
      have HW8 := Lib.hid hw8
      clear hw8
      go_upto_region 12 with (fail)
      rw [← HW8.out]
      clear HW8 q0 q1 q2 q3 q4 q5 q6 qf0 qf1 qf2 qf3 qf4 qf5 qf6 J7 J6
      have q0 := cell_of_row w8 _ 0 _ _ _ J8.out.kb
      have q1 := cell_of_row w8 _ 1 _ _ _ J8.out.kb
      have q2 := cell_of_row w8 _ 2 _ _ _ J8.out.kb
      have q3 := cell_of_row w8 _ 3 _ _ _ J8.out.kb
      have q4 := cell_of_row w8 _ 4 _ _ _ J8.out.kb
      have q5 := cell_of_row w8 _ 5 _ _ _ J8.out.kb
      have q6 := cell_of_row w8 _ 6 _ _ _ J8.out.kb
      simp at q0 q1 q2 q3 q4 q5 q6
      have p0 := cell_of_row w8 _ 0 _ _ _ J8.out.kr
      have p1 := cell_of_row w8 _ 1 _ _ _ J8.out.kr
      have p2 := cell_of_row w8 _ 2 _ _ _ J8.out.kr
      have p3 := cell_of_row w8 _ 3 _ _ _ J8.out.kr
      have p4 := cell_of_row w8 _ 4 _ _ _ J8.out.kr
      have p5 := cell_of_row w8 _ 5 _ _ _ J8.out.kr
      have p6 := cell_of_row w8 _ 6 _ _ _ J8.out.kr
      have pf0 := frozen_of_row w8 _ 0 _ _ J8.out.kr
      have pf1 := frozen_of_row w8 _ 1 _ _ J8.out.kr
      have pf2 := frozen_of_row w8 _ 2 _ _ J8.out.kr
      have pf3 := frozen_of_row w8 _ 3 _ _ J8.out.kr
      have pf4 := frozen_of_row w8 _ 4 _ _ J8.out.kr
      have pf5 := frozen_of_row w8 _ 5 _ _ J8.out.kr
      have pf6 := frozen_of_row w8 _ 6 _ _ J8.out.kr
      simp at p0 p1 p2 p3 p4 p5 p6
      have HK := Lib.hid (heap_setCell_same _ w.heap.size 6 _ _ (.int .i64 0) (heap_setCell_same _ w.heap.size 5 _ _ (.int .i64 0) (heap_setCell_same _ w.heap.size 4 _ _ (.int .i64 0) (heap_setCell_same _ w.heap.size 3 _ _ (.int .i64 0) (heap_setCell_same _ w.heap.size 2 _ _ (.int .i64 v) (heap_setCell_same _ w.heap.size 1 _ _ (.int .i64 ax) (heap_setCell_same w8 w.heap.size 0 _ _ (.int .i64 1) J8.out.kr)))))))
      have BF := Lib.hid (((((((J8.out.on.setCell (p := ⟨w.heap.size, 0, none⟩) (Nat.le_refl _) (.int .i64 1)).setCell (p := ⟨w.heap.size, 1, none⟩) (Nat.le_refl _) (.int .i64 ax)).setCell (p := ⟨w.heap.size, 2, none⟩) (Nat.le_refl _) (.int .i64 v)).setCell (p := ⟨w.heap.size, 3, none⟩) (Nat.le_refl _) (.int .i64 0)).setCell (p := ⟨w.heap.size, 4, none⟩) (Nat.le_refl _) (.int .i64 0)).setCell (p := ⟨w.heap.size, 5, none⟩) (Nat.le_refl _) (.int .i64 0)).setCell (p := ⟨w.heap.size, 6, none⟩) (Nat.le_refl _) (.int .i64 0))
      clear J8
      go_wp2
      refine bodyPost_ret (results_cell_row rfl _ _ w.heap.size _ _ (0, 0) _ rfl HK.out Tryz.underlying57 rfl (by kernel_rfl)) rfl ?_
      exact ⟨1, ax, v, 0, 0, 0, 0, rfl, BF.out⟩
    have n0 : ¬ ((r : Int) = 0) := by omega
    have n1 : ¬ ((r : Int) = 1) := by omega
    have n2 : ¬ ((r : Int) = 2) := by omega
    generalize (r : Int) = ri at *
    go_upto_region 12 with (fail)
    have q0 := cell_of_row w6 _ 0 _ _ _ J6.out.kb
    have q1 := cell_of_row w6 _ 1 _ _ _ J6.out.kb
    have q2 := cell_of_row w6 _ 2 _ _ _ J6.out.kb
    have q3 := cell_of_row w6 _ 3 _ _ _ J6.out.kb
    have q4 := cell_of_row w6 _ 4 _ _ _ J6.out.kb
    have q5 := cell_of_row w6 _ 5 _ _ _ J6.out.kb
    have q6 := cell_of_row w6 _ 6 _ _ _ J6.out.kb
    simp at q0 q1 q2 q3 q4 q5 q6
    have p0 := cell_of_row w6 _ 0 _ _ _ J6.out.kr
    have p1 := cell_of_row w6 _ 1 _ _ _ J6.out.kr
    have p2 := cell_of_row w6 _ 2 _ _ _ J6.out.kr
    have p3 := cell_of_row w6 _ 3 _ _ _ J6.out.kr
    have p4 := cell_of_row w6 _ 4 _ _ _ J6.out.kr
    have p5 := cell_of_row w6 _ 5 _ _ _ J6.out.kr
    have p6 := cell_of_row w6 _ 6 _ _ _ J6.out.kr
    have pf0 := frozen_of_row w6 _ 0 _ _ J6.out.kr
    have pf1 := frozen_of_row w6 _ 1 _ _ J6.out.kr
    have pf2 := frozen_of_row w6 _ 2 _ _ J6.out.kr
    have pf3 := frozen_of_row w6 _ 3 _ _ J6.out.kr
    have pf4 := frozen_of_row w6 _ 4 _ _ J6.out.kr
    have pf5 := frozen_of_row w6 _ 5 _ _ J6.out.kr
    have pf6 := frozen_of_row w6 _ 6 _ _ J6.out.kr
    simp at p0 p1 p2 p3 p4 p5 p6
    have HK := Lib.hid (heap_setCell_same _ w.heap.size 6 _ _ (.int .i64 0) (heap_setCell_same _ w.heap.size 5 _ _ (.int .i64 0) (heap_setCell_same _ w.heap.size 4 _ _ (.int .i64 0) (heap_setCell_same _ w.heap.size 3 _ _ (.int .i64 0) (heap_setCell_same _ w.heap.size 2 _ _ (.int .i64 ay) (heap_setCell_same _ w.heap.size 1 _ _ (.int .i64 ax) (heap_setCell_same w6 w.heap.size 0 _ _ (.int .i64 1) J6.out.kr)))))))
    have BF := Lib.hid (((((((J6.out.on.setCell (p := ⟨w.heap.size, 0, none⟩) (Nat.le_refl _) (.int .i64 1)).setCell (p := ⟨w.heap.size, 1, none⟩) (Nat.le_refl _) (.int .i64 ax)).setCell (p := ⟨w.heap.size, 2, none⟩) (Nat.le_refl _) (.int .i64 ay)).setCell (p := ⟨w.heap.size, 3, none⟩) (Nat.le_refl _) (.int .i64 0)).setCell (p := ⟨w.heap.size, 4, none⟩) (Nat.le_refl _) (.int .i64 0)).setCell (p := ⟨w.heap.size, 5, none⟩) (Nat.le_refl _) (.int .i64 0)).setCell (p := ⟨w.heap.size, 6, none⟩) (Nat.le_refl _) (.int .i64 0))
    clear J6
    go_wp2
    refine bodyPost_ret (results_cell_row rfl _ _ w.heap.size _ _ (0, 0) _ rfl HK.out Tryz.underlying57 rfl (by kernel_rfl)) rfl ?_
    exact ⟨1, ax, ay, 0, 0, 0, 0, rfl, BF.out⟩
  · have CF := Lib.hid (DrawCallFault_any lo (min hi w.heap.size) A k c b w5 hk HBY.out (CD.out w5 J.out.on))
    go_wp2_with fail
    refine CF.out.mono ?_
    rintro e wc ⟨c0, c1, c2, c3, rfl, hbc⟩
    have JC := Lib.hid (J.out.calls hbc)
    clear hbc CF J
    have q0 := cell_of_row wc _ 0 _ _ _ JC.out.kb
    have q1 := cell_of_row wc _ 1 _ _ _ JC.out.kb
    have q2 := cell_of_row wc _ 2 _ _ _ JC.out.kb
    have q3 := cell_of_row wc _ 3 _ _ _ JC.out.kb
    have q4 := cell_of_row wc _ 4 _ _ _ JC.out.kb
    have q5 := cell_of_row wc _ 5 _ _ _ JC.out.kb
    have q6 := cell_of_row wc _ 6 _ _ _ JC.out.kb
    have qf0 := frozen_of_row wc _ 0 _ _ JC.out.kb
    have qf1 := frozen_of_row wc _ 1 _ _ JC.out.kb
    have qf2 := frozen_of_row wc _ 2 _ _ JC.out.kb
    have qf3 := frozen_of_row wc _ 3 _ _ JC.out.kb
    have qf4 := frozen_of_row wc _ 4 _ _ JC.out.kb
    have qf5 := frozen_of_row wc _ 5 _ _ JC.out.kb
    have qf6 := frozen_of_row wc _ 6 _ _ JC.out.kb
    simp at q0 q1 q2 q3 q4 q5 q6
    obtain ⟨wd, hwd⟩ : ∃ V, V = (((((((wc.setCell ⟨s, 0, none⟩ (.int .i64 2)).setCell ⟨s, 1, none⟩ (.int .i64 0)).setCell ⟨s, 2, none⟩ (.int .i64 0)).setCell ⟨s, 3, none⟩ (.int .i64 c0)).setCell ⟨s, 4, none⟩ (.int .i64 c1)).setCell ⟨s, 5, none⟩ (.int .i64 c2)).setCell ⟨s, 6, none⟩ (.int .i64 c3)) := ⟨_, rfl⟩
    have J : Hid (EF3 w wd g s A k c (a + 1) 2 0 0 c0 c1 c2 c3) := by rw [hwd]; exact ((((((JC.out.set0 2).set1 0).set2 0).set3 c0).set4 c1).set5 c2).set6 c3
    have HWD := Lib.hid hwd
    clear hwd
    go_upto_region 5 with (fail)
    rw [← HWD.out]
    clear HWD q0 q1 q2 q3 q4 q5 q6 qf0 qf1 qf2 qf3 qf4 qf5 qf6 JC
    have CN := Lib.hid (l1Next_any lo (min hi w.heap.size) g A k c (a + 1) 10 b wd (by omega) hk (by omega) HBY.out (CD.out wd J.out.on) (by omega) J.out.sr)
    go_wp2_with fail
    refine CN.out.mono ?_
    rintro e w6 ⟨r, rfl, _, _, hs, ho⟩
    have J6 := Lib.hid (J.out.step hs ho)
    clear hs ho CN J
    by_cases r0 : r = 0
    · subst r0
      have CP := Lib.hid (pick_lit lo (min hi w.heap.size) g A k c (a + 1 + 1) 4 2 #[.int .i64 0, .int .i64 1, .int .i64 2, .int .i64 3] b [0, 1, 2, 3] w6 hk (by omega) HBY.out (CD.out w6 J6.out.on) (by have := J6.out.wg; omega) J6.out.sr rfl (by omega) (by omega) (fun q hq => by rcases (show q = 0 ∨ q = 1 ∨ q = 2 ∨ q = 3 by omega) with rfl | rfl | rfl | rfl <;> rfl))
      go_wp2_with fail
      refine CP.out.mono ?_
      rintro e w7 ⟨r9, _, rfl, hs, ho, _⟩
      generalize gi [0, 1, 2, 3] r9 = v
      have J7 := Lib.hid (J6.out.step hs ho)
      clear hs ho CP
      have q0 := cell_of_row w7 _ 0 _ _ _ J7.out.kb
      have q1 := cell_of_row w7 _ 1 _ _ _ J7.out.kb
      have q2 := cell_of_row w7 _ 2 _ _ _ J7.out.kb
      have q3 := cell_of_row w7 _ 3 _ _ _ J7.out.kb
      have q4 := cell_of_row w7 _ 4 _ _ _ J7.out.kb
      have q5 := cell_of_row w7 _ 5 _ _ _ J7.out.kb
      have q6 := cell_of_row w7 _ 6 _ _ _ J7.out.kb
      have qf0 := frozen_of_row w7 _ 0 _ _ J7.out.kb
      have qf1 := frozen_of_row w7 _ 1 _ _ J7.out.kb
      have qf2 := frozen_of_row w7 _ 2 _ _ J7.out.kb
      have qf3 := frozen_of_row w7 _ 3 _ _ J7.out.kb
      have qf4 := frozen_of_row w7 _ 4 _ _ J7.out.kb
      have qf5 := frozen_of_row w7 _ 5 _ _ J7.out.kb
      have qf6 := frozen_of_row w7 _ 6 _ _ J7.out.kb
      simp at q0 q1 q2 q3 q4 q5 q6
      obtain ⟨w8, hw8⟩ : ∃ V, V = w7.setCell ⟨s, 0, none⟩ (.int .i64 v) := ⟨_, rfl⟩
      have J8 : Hid (EF3 w w8 g s A k c (a + 1 + 1 + 1) v 0 0 c0 c1 c2 c3) := by rw [hw8]; exact J7.out.set0 v
      have HW8 := Lib.hid hw8
      clear hw8
      go_upto_region 12 with (fail)
      rw [← HW8.out]
      clear HW8 q0 q1 q2 q3 q4 q5 q6 qf0 qf1 qf2 qf3 qf4 qf5 qf6 J7 J6
      have q0 := cell_of_row w8 _ 0 _ _ _ J8.out.kb
      have q1 := cell_of_row w8 _ 1 _ _ _ J8.out.kb
      have q2 := cell_of_row w8 _ 2 _ _ _ J8.out.kb
      have q3 := cell_of_row w8 _ 3 _ _ _ J8.out.kb
      have q4 := cell_of_row w8 _ 4 _ _ _ J8.out.kb
      have q5 := cell_of_row w8 _ 5 _ _ _ J8.out.kb
      have q6 := cell_of_row w8 _ 6 _ _ _ J8.out.kb
      simp at q0 q1 q2 q3 q4 q5 q6
      have p0 := cell_of_row w8 _ 0 _ _ _ J8.out.kr
      have p1 := cell_of_row w8 _ 1 _ _ _ J8.out.kr
      have p2 := cell_of_row w8 _ 2 _ _ _ J8.out.kr
      have p3 := cell_of_row w8 _ 3 _ _ _ J8.out.kr
      have p4 := cell_of_row w8 _ 4 _ _ _ J8.out.kr
      have p5 := cell_of_row w8 _ 5 _ _ _ J8.out.kr
      have p6 := cell_of_row w8 _ 6 _ _ _ J8.out.kr
      have pf0 := frozen_of_row w8 _ 0 _ _ J8.out.kr
      have pf1 := frozen_of_row w8 _ 1 _ _ J8.out.kr
      have pf2 := frozen_of_row w8 _ 2 _ _ J8.out.kr
      have pf3 := frozen_of_row w8 _ 3 _ _ J8.out.kr
      have pf4 := frozen_of_row w8 _ 4 _ _ J8.out.kr
      have pf5 := frozen_of_row w8 _ 5 _ _ J8.out.kr
      have pf6 := frozen_of_row w8 _ 6 _ _ J8.out.kr
      simp at p0 p1 p2 p3 p4 p5 p6
      have HK := Lib.hid (heap_setCell_same _ w.heap.size 6 _ _ (.int .i64 c3) (heap_setCell_same _ w.heap.size 5 _ _ (.int .i64 c2) (heap_setCell_same _ w.heap.size 4 _ _ (.int .i64 c1) (heap_setCell_same _ w.heap.size 3 _ _ (.int .i64 c0) (heap_setCell_same _ w.heap.size 2 _ _ (.int .i64 0) (heap_setCell_same _ w.heap.size 1 _ _ (.int .i64 0) (heap_setCell_same w8 w.heap.size 0 _ _ (.int .i64 v) J8.out.kr)))))))
      have BF := Lib.hid (((((((J8.out.on.setCell (p := ⟨w.heap.size, 0, none⟩) (Nat.le_refl _) (.int .i64 v)).setCell (p := ⟨w.heap.size, 1, none⟩) (Nat.le_refl _) (.int .i64 0)).setCell (p := ⟨w.heap.size, 2, none⟩) (Nat.le_refl _) (.int .i64 0)).setCell (p := ⟨w.heap.size, 3, none⟩) (Nat.le_refl _) (.int .i64 c0)).setCell (p := ⟨w.heap.size, 4, none⟩) (Nat.le_refl _) (.int .i64 c1)).setCell (p := ⟨w.heap.size, 5, none⟩) (Nat.le_refl _) (.int .i64 c2)).setCell (p := ⟨w.heap.size, 6, none⟩) (Nat.le_refl _) (.int .i64 c3))
      clear J8
      go_wp2
      refine bodyPost_ret (results_cell_row rfl _ _ w.heap.size _ _ (0, 0) _ rfl HK.out Tryz.underlying57 rfl (by kernel_rfl)) rfl ?_
      exact ⟨v, 0, 0, c0, c1, c2, c3, rfl, BF.out⟩
    by_cases r1 : r = 1
    · subst r1
      have CP := Lib.hid (pick_lit lo (min hi w.heap.size) g A k c (a + 1 + 1) 4 2 #[.int .i64 0, .int .i64 1, .int .i64 3, .int .i64 4] b [0, 1, 3, 4] w6 hk (by omega) HBY.out (CD.out w6 J6.out.on) (by have := J6.out.wg; omega) J6.out.sr rfl (by omega) (by omega) (fun q hq => by rcases (show q = 0 ∨ q = 1 ∨ q = 2 ∨ q = 3 by omega) with rfl | rfl | rfl | rfl <;> rfl))
      go_wp2_with fail
      refine CP.out.mono ?_
      rintro e w7 ⟨r9, _, rfl, hs, ho, _⟩
      generalize gi [0, 1, 3, 4] r9 = v
      have J7 := Lib.hid (J6.out.step hs ho)
      clear hs ho CP
      have q0 := cell_of_row w7 _ 0 _ _ _ J7.out.kb
      have q1 := cell_of_row w7 _ 1 _ _ _ J7.out.kb
      have q2 := cell_of_row w7 _ 2 _ _ _ J7.out.kb
      have q3 := cell_of_row w7 _ 3 _ _ _ J7.out.kb
      have q4 := cell_of_row w7 _ 4 _ _ _ J7.out.kb
      have q5 := cell_of_row w7 _ 5 _ _ _ J7.out.kb
      have q6 := cell_of_row w7 _ 6 _ _ _ J7.out.kb
      have qf0 := frozen_of_row w7 _ 0 _ _ J7.out.kb
      have qf1 := frozen_of_row w7 _ 1 _ _ J7.out.kb
      have qf2 := frozen_of_row w7 _ 2 _ _ J7.out.kb
      have qf3 := frozen_of_row w7 _ 3 _ _ J7.out.kb
      have qf4 := frozen_of_row w7 _ 4 _ _ J7.out.kb
      have qf5 := frozen_of_row w7 _ 5 _ _ J7.out.kb
      have qf6 := frozen_of_row w7 _ 6 _ _ J7.out.kb
      simp at q0 q1 q2 q3 q4 q5 q6
      obtain ⟨w8, hw8⟩ : ∃ V, V = w7.setCell ⟨s, 1, none⟩ (.int .i64 v) := ⟨_, rfl⟩
      have J8 : Hid (EF3 w w8 g s A k c (a + 1 + 1 + 1) 2 v 0 c0 c1 c2 c3) := by rw [hw8]; exact J7.out.set1 v
      have HW8 := Lib.hid hw8
      clear hw8
      go_upto_region 12 with (fail)
      rw [← HW8.out]
      clear HW8 q0 q1 q2 q3 q4 q5 q6 qf0 qf1 qf2 qf3 qf4 qf5 qf6 J7 J6
      have q0 := cell_of_row w8 _ 0 _ _ _ J8.out.kb
      have q1 := cell_of_row w8 _ 1 _ _ _ J8.out.kb
      have q2 := cell_of_row w8 _ 2 _ _ _ J8.out.kb
      have q3 := cell_of_row w8 _ 3 _ _ _ J8.out.kb
      have q4 := cell_of_row w8 _ 4 _ _ _ J8.out.kb
      have q5 := cell_of_row w8 _ 5 _ _ _ J8.out.kb
      have q6 := cell_of_row w8 _ 6 _ _ _ J8.out.kb
      simp at q0 q1 q2 q3 q4 q5 q6
      have p0 := cell_of_row w8 _ 0 _ _ _ J8.out.kr
      have p1 := cell_of_row w8 _ 1 _ _ _ J8.out.kr
      have p2 := cell_of_row w8 _ 2 _ _ _ J8.out.kr
      have p3 := cell_of_row w8 _ 3 _ _ _ J8.out.kr
      have p4 := cell_of_row w8 _ 4 _ _ _ J8.out.kr
      have p5 := cell_of_row w8 _ 5 _ _ _ J8.out.kr
      have p6 := cell_of_row w8 _ 6 _ _ _ J8.out.kr
      have pf0 := frozen_of_row w8 _ 0 _ _ J8.out.kr
      have pf1 := frozen_of_row w8 _ 1 _ _ J8.out.kr
      have pf2 := frozen_of_row w8 _ 2 _ _ J8.out.kr
      have pf3 := frozen_of_row w8 _ 3 _ _ J8.out.kr
      have pf4 := frozen_of_row w8 _ 4 _ _ J8.out.kr
      have pf5 := frozen_of_row w8 _ 5 _ _ J8.out.kr
      have pf6 := frozen_of_row w8 _ 6 _ _ J8.out.kr
      simp at p0 p1 p2 p3 p4 p5 p6
      have HK := Lib.hid (heap_setCell_same _ w.heap.size 6 _ _ (.int .i64 c3) (heap_setCell_same _ w.heap.size 5 _ _ (.int .i64 c2) (heap_setCell_same _ w.heap.size 4 _ _ (.int .i64 c1) (heap_setCell_same _ w.heap.size 3 _ _ (.int .i64 c0) (heap_setCell_same _ w.heap.size 2 _ _ (.int .i64 0) (heap_setCell_same _ w.heap.size 1 _ _ (.int .i64 v) (heap_setCell_same w8 w.heap.size 0 _ _ (.int .i64 2) J8.out.kr)))))))
      have BF := Lib.hid (((((((J8.out.on.setCell (p := ⟨w.heap.size, 0, none⟩) (Nat.le_refl _) (.int .i64 2)).setCell (p := ⟨w.heap.size, 1, none⟩) (Nat.le_refl _) (.int .i64 v)).setCell (p := ⟨w.heap.size, 2, none⟩) (Nat.le_refl _) (.int .i64 0)).setCell (p := ⟨w.heap.size, 3, none⟩) (Nat.le_refl _) (.int .i64 c0)).setCell (p := ⟨w.heap.size, 4, none⟩) (Nat.le_refl _) (.int .i64 c1)).setCell (p := ⟨w.heap.size, 5, none⟩) (Nat.le_refl _) (.int .i64 c2)).setCell (p := ⟨w.heap.size, 6, none⟩) (Nat.le_refl _) (.int .i64 c3))
      clear J8
      go_wp2
      refine bodyPost_ret (results_cell_row rfl _ _ w.heap.size _ _ (0, 0) _ rfl HK.out Tryz.underlying57 rfl (by kernel_rfl)) rfl ?_
      exact ⟨2, v, 0, c0, c1, c2, c3, rfl, BF.out⟩
    by_cases r2 : r = 2
    · subst r2
      have CP := Lib.hid (pick_lit lo (min hi w.heap.size) g A k c (a + 1 + 1) 3 2 #[.int .i64 (-1), .int .i64 4, .int .i64 1] b [-1, 4, 1] w6 hk (by omega) HBY.out (CD.out w6 J6.out.on) (by have := J6.out.wg; omega) J6.out.sr rfl (by omega) (by omega) (fun q hq => by rcases (show q = 0 ∨ q = 1 ∨ q = 2 by omega) with rfl | rfl | rfl <;> rfl))
      go_wp2_with fail
      refine CP.out.mono ?_
      rintro e w7 ⟨r9, _, rfl, hs, ho, _⟩
      generalize gi [-1, 4, 1] r9 = v
      have J7 := Lib.hid (J6.out.step hs ho)
      clear hs ho CP
      have q0 := cell_of_row w7 _ 0 _ _ _ J7.out.kb
      have q1 := cell_of_row w7 _ 1 _ _ _ J7.out.kb
      have q2 := cell_of_row w7 _ 2 _ _ _ J7.out.kb
      have q3 := cell_of_row w7 _ 3 _ _ _ J7.out.kb
      have q4 := cell_of_row w7 _ 4 _ _ _ J7.out.kb
      have q5 := cell_of_row w7 _ 5 _ _ _ J7.out.kb
      have q6 := cell_of_row w7 _ 6 _ _ _ J7.out.kb
      have qf0 := frozen_of_row w7 _ 0 _ _ J7.out.kb
      have qf1 := frozen_of_row w7 _ 1 _ _ J7.out.kb
      have qf2 := frozen_of_row w7 _ 2 _ _ J7.out.kb
      have qf3 := frozen_of_row w7 _ 3 _ _ J7.out.kb
      have qf4 := frozen_of_row w7 _ 4 _ _ J7.out.kb
      have qf5 := frozen_of_row w7 _ 5 _ _ J7.out.kb
      have qf6 := frozen_of_row w7 _ 6 _ _ J7.out.kb
      simp at q0 q1 q2 q3 q4 q5 q6
      obtain ⟨w8, hw8⟩ : ∃ V, V = w7.setCell ⟨s, 2, none⟩ (.int .i64 v) := ⟨_, rfl⟩
      have J8 : Hid (EF3 w w8 g s A k c (a + 1 + 1 + 1) 2 0 v c0 c1 c2 c3) := by rw [hw8]; exact J7.out.set2 v
      have HW8 := Lib.hid hw8
      clear hw8
      go_upto_region 12 with (fail)
      rw [← HW8.out]
      clear HW8 q0 q1 q2 q3 q4 q5 q6 qf0 qf1 qf2 qf3 qf4 qf5 qf6 J7 J6
      have q0 := cell_of_row w8 _ 0 _ _ _ J8.out.kb
      have q1 := cell_of_row w8 _ 1 _ _ _ J8.out.kb
      have q2 := cell_of_row w8 _ 2 _ _ _ J8.out.kb
      have q3 := cell_of_row w8 _ 3 _ _ _ J8.out.kb
      have q4 := cell_of_row w8 _ 4 _ _ _ J8.out.kb
      have q5 := cell_of_row w8 _ 5 _ _ _ J8.out.kb
      have q6 := cell_of_row w8 _ 6 _ _ _ J8.out.kb
      simp at q0 q1 q2 q3 q4 q5 q6
      have p0 := cell_of_row w8 _ 0 _ _ _ J8.out.kr
      have p1 := cell_of_row w8 _ 1 _ _ _ J8.out.kr
      have p2 := cell_of_row w8 _ 2 _ _ _ J8.out.kr
      have p3 := cell_of_row w8 _ 3 _ _ _ J8.out.kr
      have p4 := cell_of_row w8 _ 4 _ _ _ J8.out.kr
      have p5 := cell_of_row w8 _ 5 _ _ _ J8.out.kr
      have p6 := cell_of_row w8 _ 6 _ _ _ J8.out.kr
      have pf0 := frozen_of_row w8 _ 0 _ _ J8.out.kr
      have pf1 := frozen_of_row w8 _ 1 _ _ J8.out.kr
      have pf2 := frozen_of_row w8 _ 2 _ _ J8.out.kr
      have pf3 := frozen_of_row w8 _ 3 _ _ J8.out.kr
      have pf4 := frozen_of_row w8 _ 4 _ _ J8.out.kr
      have pf5 := frozen_of_row w8 _ 5 _ _ J8.out.kr
      have pf6 := frozen_of_row w8 _ 6 _ _ J8.out.kr
      simp at p0 p1 p2 p3 p4 p5 p6
      have HK := Lib.hid (heap_setCell_same _ w.heap.size 6 _ _ (.int .i64 c3) (heap_setCell_same _ w.heap.size 5 _ _ (.int .i64 c2) (heap_setCell_same _ w.heap.size 4 _ _ (.int .i64 c1) (heap_setCell_same _ w.heap.size 3 _ _ (.int .i64 c0) (heap_setCell_same _ w.heap.size 2 _ _ (.int .i64 v) (heap_setCell_same _ w.heap.size 1 _ _ (.int .i64 0) (heap_setCell_same w8 w.heap.size 0 _ _ (.int .i64 2) J8.out.kr)))))))
      have BF := Lib.hid (((((((J8.out.on.setCell (p := ⟨w.heap.size, 0, none⟩) (Nat.le_refl _) (.int .i64 2)).setCell (p := ⟨w.heap.size, 1, none⟩) (Nat.le_refl _) (.int .i64 0)).setCell (p := ⟨w.heap.size, 2, none⟩) (Nat.le_refl _) (.int .i64 v)).setCell (p := ⟨w.heap.size, 3, none⟩) (Nat.le_refl _) (.int .i64 c0)).setCell (p := ⟨w.heap.size, 4, none⟩) (Nat.le_refl _) (.int .i64 c1)).setCell (p := ⟨w.heap.size, 5, none⟩) (Nat.le_refl _) (.int .i64 c2)).setCell (p := ⟨w.heap.size, 6, none⟩) (Nat.le_refl _) (.int .i64 c3))
      clear J8
      go_wp2
      refine bodyPost_ret (results_cell_row rfl _ _ w.heap.size _ _ (0, 0) _ rfl HK.out Tryz.underlying57 rfl (by kernel_rfl)) rfl ?_
      exact ⟨2, 0, v, c0, c1, c2, c3, rfl, BF.out⟩
    have n0 : ¬ ((r : Int) = 0) := by omega
    have n1 : ¬ ((r : Int) = 1) := by omega
    have n2 : ¬ ((r : Int) = 2) := by omega
    generalize (r : Int) = ri at *
    go_upto_region 12 with (fail)
    have q0 := cell_of_row w6 _ 0 _ _ _ J6.out.kb
    have q1 := cell_of_row w6 _ 1 _ _ _ J6.out.kb
    have q2 := cell_of_row w6 _ 2 _ _ _ J6.out.kb
    have q3 := cell_of_row w6 _ 3 _ _ _ J6.out.kb
    have q4 := cell_of_row w6 _ 4 _ _ _ J6.out.kb
    have q5 := cell_of_row w6 _ 5 _ _ _ J6.out.kb
    have q6 := cell_of_row w6 _ 6 _ _ _ J6.out.kb
    simp at q0 q1 q2 q3 q4 q5 q6
    have p0 := cell_of_row w6 _ 0 _ _ _ J6.out.kr
    have p1 := cell_of_row w6 _ 1 _ _ _ J6.out.kr
    have p2 := cell_of_row w6 _ 2 _ _ _ J6.out.kr
    have p3 := cell_of_row w6 _ 3 _ _ _ J6.out.kr
    have p4 := cell_of_row w6 _ 4 _ _ _ J6.out.kr
    have p5 := cell_of_row w6 _ 5 _ _ _ J6.out.kr
    have p6 := cell_of_row w6 _ 6 _ _ _ J6.out.kr
    have pf0 := frozen_of_row w6 _ 0 _ _ J6.out.kr
    have pf1 := frozen_of_row w6 _ 1 _ _ J6.out.kr
    have pf2 := frozen_of_row w6 _ 2 _ _ J6.out.kr
    have pf3 := frozen_of_row w6 _ 3 _ _ J6.out.kr
    have pf4 := frozen_of_row w6 _ 4 _ _ J6.out.kr
    have pf5 := frozen_of_row w6 _ 5 _ _ J6.out.kr
    have pf6 := frozen_of_row w6 _ 6 _ _ J6.out.kr
    simp at p0 p1 p2 p3 p4 p5 p6
    have HK := Lib.hid (heap_setCell_same _ w.heap.size 6 _ _ (.int .i64 c3) (heap_setCell_same _ w.heap.size 5 _ _ (.int .i64 c2) (heap_setCell_same _ w.heap.size 4 _ _ (.int .i64 c1) (heap_setCell_same _ w.heap.size 3 _ _ (.int .i64 c0) (heap_setCell_same _ w.heap.size 2 _ _ (.int .i64 0) (heap_setCell_same _ w.heap.size 1 _ _ (.int .i64 0) (heap_setCell_same w6 w.heap.size 0 _ _ (.int .i64 2) J6.out.kr)))))))
    have BF := Lib.hid (((((((J6.out.on.setCell (p := ⟨w.heap.size, 0, none⟩) (Nat.le_refl _) (.int .i64 2)).setCell (p := ⟨w.heap.size, 1, none⟩) (Nat.le_refl _) (.int .i64 0)).setCell (p := ⟨w.heap.size, 2, none⟩) (Nat.le_refl _) (.int .i64 0)).setCell (p := ⟨w.heap.size, 3, none⟩) (Nat.le_refl _) (.int .i64 c0)).setCell (p := ⟨w.heap.size, 4, none⟩) (Nat.le_refl _) (.int .i64 c1)).setCell (p := ⟨w.heap.size, 5, none⟩) (Nat.le_refl _) (.int .i64 c2)).setCell (p := ⟨w.heap.size, 6, none⟩) (Nat.le_refl _) (.int .i64 c3))
    clear J6
    go_wp2
    refine bodyPost_ret (results_cell_row rfl _ _ w.heap.size _ _ (0, 0) _ rfl HK.out Tryz.underlying57 rfl (by kernel_rfl)) rfl ?_
    exact ⟨2, 0, 0, c0, c1, c2, c3, rfl, BF.out⟩
end Go.Proofs.YtckapndpefkcgaaGreat
