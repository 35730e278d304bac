/-
  What the draw of a lock answers. No conditions beyond that the code can be read.
-/
import Derived.Test.YtachpoehejdpjaaDoorDraw6
import Derived.Test.YtachpoehejdpjaaDoorAns6
namespace Go.Proofs.YtachpoehejdpjaaDoor
open Go.RowKit
set_option maxRecDepth 100000

/-- a lock of one's own is drawn -/
def LDrawn (g : Nat) (A : Option Addr) (k c a : Nat) (w : World) (e : Ending) (w' : World) : Prop :=
  ∃ o B n c' xs a', e = .returned (.agg #[.int .i64 o, .slice B n c']) ∧ xs.length = n ∧ n ≤ 6 ∧ OR 2 1 w' w.heap.size B n c' xs ∧ a' ≤ a + 12 ∧ Src w' g A k c a' ∧ Only g (g + 1) w w'
theorem Only.setNew {g s j : Nat} {w W : World} (h : Only g (g + 1) w W) (hs : w.heap.size ≤ s) (hg : g < w.heap.size) (v : Value) : Only g (g + 1) w (W.setCell ⟨s, j, none⟩ v) :=
  ⟨h.1.setCell (p := ⟨s, j, none⟩) (by simp; omega) v, fun q h1 h2 => (Below.heap_setCell W ⟨s, j, none⟩ _ q (by simp; omega)).trans (h.2 q h1 h2)⟩
/-- a lock that is being drawn, in its box s3 -/
structure LS6 (w W : World) (g s3 : Nat) (A : Option Addr) (k c a' : Nat) (o : Int) (B : Option Addr) (n c' : Nat) (xs : List Int) : Prop where
  kb : W.heap[s3]? = some (.cells #[.int .i64 o, .slice B n c'] 26 (0, 0))
  kr : W.heap[w.heap.size]? = some (.cells #[.int .i64 0, .slice none 0 0] 26 (0, 0))
  ow : OR 2 1 W w.heap.size B n c' xs
  sr : Src W g A k c a'
  on : Only g (g + 1) w W
  lt : w.heap.size < s3
  gw : g < w.heap.size
  ex : xs.length = n
  hn : n ≤ 6
section
variable {w W W' : World} {g s3 k c a' a2 : Nat} {A B : Option Addr} {n c' : Nat} {o : Int} {xs : List Int}
theorem LS6.step (h : LS6 w W g s3 A k c a' o B n c' xs) (hg : g < w.heap.size) (hs : Src W' g A k c a2) (ho : Only g (g + 1) W W') : LS6 w W' g s3 A k c a2 o B n c' xs :=
  ⟨(ho.2 s3 (by have := h.lt; omega) (Array.getElem?_eq_some_iff.1 h.kb).1).trans h.kb, (ho.2 _ (by omega) (Array.getElem?_eq_some_iff.1 h.kr).1).trans h.kr, OR.keptG h.ow ho.grownBy (fun k hk => by injection hk with hk; omega), hs, h.on.trans ho, h.lt, hg, h.ex, h.hn⟩
theorem LS6.alloc (h : LS6 w W g s3 A k c a' o B n c' xs) (ob : Obj) : LS6 w (W.alloc ob) g s3 A k c a' o B n c' xs :=
  ⟨(Below.heap_alloc W ob s3 (Array.getElem?_eq_some_iff.1 h.kb).1).trans h.kb, (Below.heap_alloc W ob _ (Array.getElem?_eq_some_iff.1 h.kr).1).trans h.kr, OR.alloc h.ow ob, h.sr.alloc ob, h.on.alloc (by have := h.gw; omega) ob, h.lt, h.gw, h.ex, h.hn⟩
theorem LS6.owner (h : LS6 w W g s3 A k c a' o B n c' xs) (v : Int) : LS6 w (W.setCell ⟨s3, 0, none⟩ (.int .i64 v)) g s3 A k c a' v B n c' xs :=
  ⟨heap_setCell_same _ _ 0 _ _ _ h.kb, (Below.heap_setCell _ _ _ _ (by simp; have := h.lt; omega)).trans h.kr, OR.setOther6 h.ow h.kb (by decide) 0 _, (Below.heap_setCell _ _ _ _ (by simp; have := h.lt; have := h.gw; omega)).trans h.sr, h.on.setNew (by have := h.lt; omega) h.gw _, h.lt, h.gw, h.ex, h.hn⟩
theorem LS6.free (h : LS6 w W g s3 A k c a' o B n c' xs) (v : Int) : LS6 w ((W.setCell ⟨s3, 0, none⟩ (.int .i64 v)).setCell ⟨s3, 1, none⟩ (.slice none 0 0)) g s3 A k c a' v none 0 0 [] :=
  have h1 := h.owner v
  ⟨heap_setCell_same _ _ 1 _ _ _ h1.kb, (Below.heap_setCell _ _ _ _ (by simp; have := h.lt; omega)).trans h1.kr, OR.void _ _, (Below.heap_setCell _ _ _ _ (by simp; have := h.lt; have := h.gw; omega)).trans h1.sr, h1.on.setNew (by have := h.lt; omega) h.gw _, h.lt, h.gw, rfl, by omega⟩
theorem LS6.done (h : LS6 w W g s3 A k c a' o B n c' xs) {a : Nat} (ha : a' ≤ a + 12) : LDrawn g A k c a w (.returned (.agg #[.int .i64 o, .slice B n c'])) ((W.setCell ⟨w.heap.size, 0, none⟩ (.int .i64 o)).setCell ⟨w.heap.size, 1, none⟩ (.slice B n c')) :=
  ⟨o, B, n, c', xs, a', rfl, h.ex, h.hn, OR.setOther6 (OR.setOther6 h.ow h.kr (by decide) 0 _) (heap_setCell_same _ _ 0 _ _ _ h.kr) (by decide) 1 _, ha,
    (Below.heap_setCell _ _ _ _ (by simp; have := h.gw; omega)).trans ((Below.heap_setCell _ _ _ _ (by simp; have := h.gw; omega)).trans h.sr), (h.on.setNew (Nat.le_refl _) h.gw _).setNew (Nat.le_refl _) h.gw _⟩
end

set_option maxHeartbeats 2000000 in
theorem l6Draw_any (lo hi g : Nat) (A : Option Addr) (k c a : Nat) (b : Nat → Int) (w : World) (hk : k ≤ 1048576) (ha : a ≤ 1048000)
    (hb : ∀ j, 0 ≤ b j ∧ b j ≤ 255) (h : Sl w lo hi A k (fun j => .int .u8 (b j))) (hg : hi ≤ g) (hs : Src w g A k c a) :
    Calls Tryd.prog 29 #[.pointer (some ⟨g, 0, none⟩)] w (LDrawn g A k c a w) := by
  have hgw := hs.lt
  have H := Lib.hid h
  have HBY := Lib.hid hb
  obtain ⟨w1, hw1⟩ : ∃ w1, w1 = w.alloc (.cells #[.int .i64 0, .slice none 0 0] 26) := ⟨_, rfl⟩
  have K1 : Hid (w1.heap[w.heap.size]? = some (.cells #[.int .i64 0, .slice none 0 0] 26 (0, 0))) := by show _ = _; rw [hw1]; exact heap_alloc_new w _
  have HE : Hid (Only g (g + 1) w w1) := by rw [hw1]; exact (Only.refl _ _ _).alloc (by omega) _
  have HS : Hid (Src w1 g A k c a) := by rw [hw1]; exact hs.alloc _
  have Z1 : Hid (w1.heap.size = w.heap.size + 1) := by show _ = _; rw [hw1]; simp
  have CD : Hid (∀ W, Only g (g + 1) w W → Sl W lo (min hi w.heap.size) A k (fun j => .int .u8 (b j))) := fun W hW => H.out.lt.only hW (by omega) (.inl (by omega))
  have C := Lib.hid (l1Next_any lo (min hi w.heap.size) g A k c a 5 b w1 (by omega) hk (by omega) hb (CD.out w1 HE.out) (by omega) HS.out)
  have HW1 := Lib.hid hw1
  clear h hb hs hw1
  go_enter Tryd.func29, Tryd.ntmps29
  go_upto_region 1 with (fail)
  rw [← HW1.out]
  clear HW1
  go_wp2_with fail
  refine C.out.mono ?_
  rintro e w2 ⟨o, rfl, _, _, hs2, ho2⟩
  have HS2 := Lib.hid hs2
  have HO2 := Lib.hid ho2
  clear hs2 ho2 C HS
  have Q := Lib.hid (l6Queue_any lo (min hi w.heap.size) g A k c (a + 1) b w2 hk (by omega) HBY.out (CD.out w2 (HE.out.trans HO2.out)) (by omega) HS2.out)
  go_wp2_with fail
  refine Q.out.mono ?_
  rintro e w3 ⟨B, n, c', xs, a3, rfl, ex, hn, ho, ha3, hs3, ho3⟩
  obtain ⟨s3, hs30⟩ : ∃ s, s = w3.heap.size := ⟨_, rfl⟩
  obtain ⟨w4, hw4⟩ : ∃ w4, w4 = w3.alloc (.cells #[.int .i64 o, .slice B n c'] 26) := ⟨_, rfl⟩
  have O13 : Only g (g + 1) w1 w3 := HO2.out.trans ho3
  have LS : Hid (LS6 w w4 g s3 A k c a3 o B n c' xs) := by
    have z := Z1.out
    have z1 := O13.1.size
    refine ⟨by rw [hw4, hs30]; exact heap_alloc_new w3 _, ?_, ?_, by rw [hw4]; exact hs3.alloc _, by rw [hw4]; exact (HE.out.trans O13).alloc (by omega) _, by omega, hgw, ex, hn⟩
    · rw [hw4]
      exact (Below.heap_alloc w3 _ _ (by omega)).trans ((O13.2 _ (by omega) (by omega)).trans K1.out)
    · rw [hw4]
      exact OR.alloc (OR.mono ho (by have := HO2.out.1.size; omega)) _
  have HW4 := Lib.hid hw4
  clear ex hn ho hs3 ho3 O13 Q HS2 HO2 hw4
  go_upto_region 2 with (fail)
  rw [← HW4.out, ← hs30]
  clear HW4 hs30
  have C1 := Lib.hid (l1Chance_any lo (min hi w.heap.size) g A k c a3 3 b w4 (by omega) hk (by omega) HBY.out (CD.out w4 LS.out.on) (by omega) LS.out.sr)
  go_wp2_with fail
  refine C1.out.mono ?_
  rintro e w5 ⟨y, rfl, hs5, ho5⟩
  have LS := Lib.hid (LS.out.step hgw hs5 ho5)
  clear hs5 ho5 C1
  rcases y with _ | _
  · go_upto_region 4 with (fail)
    have C2 := Lib.hid (l1Chance_any lo (min hi w.heap.size) g A k c (a3 + 1) 14 b w5 (by omega) hk (by omega) HBY.out (CD.out w5 LS.out.on) (by omega) LS.out.sr)
    go_wp2_with fail
    refine C2.out.mono ?_
    rintro e w7 ⟨y2, rfl, hs7, ho7⟩
    have LS := Lib.hid (LS.out.step hgw hs7 ho7)
    clear hs7 ho7 C2
    rcases y2 with _ | _
    · go_upto_region 6 with (fail)
      have x0 := cell_of_row w7 _ 0 _ _ _ LS.out.kb; have x1 := cell_of_row w7 _ 1 _ _ _ LS.out.kb; have f0 := frozen_of_row w7 _ 0 _ _ LS.out.kb; have f1 := frozen_of_row w7 _ 1 _ _ LS.out.kb
      simp at x0 x1
      have r0 := cell_of_row w7 _ 0 _ _ _ LS.out.kr; have r1 := cell_of_row w7 _ 1 _ _ _ LS.out.kr; have e0 := frozen_of_row w7 _ 0 _ _ LS.out.kr; have e1 := frozen_of_row w7 _ 1 _ _ LS.out.kr
      simp at r0 r1
      go_wp2
      refine bodyPost_ret (results_cell_row rfl _ _ _ _ _ (0, 0) _ rfl (heap_setCell_same _ _ 1 _ _ _ (heap_setCell_same _ _ 0 _ _ _ LS.out.kr)) Tryd.underlying26 rfl (by kernel_rfl)) rfl ?_
      exact LS.out.done (by omega)
    · have hsz7 : w.heap.size < w7.heap.size := by have := LS.out.on.1.size; have := (Array.getElem?_eq_some_iff.1 LS.out.kr).1; omega
      have LA := Lib.hid (LS.out.alloc (.cells #[.int .i64 (-2), .int .i64 5, .int .i64 (-1)] 2))
      have CP := Lib.hid (l1Pick_any lo (min hi w.heap.size) g w7.heap.size (w7.heap.size + 1) A (some ⟨w7.heap.size, 0, none⟩) k c (a3 + 1 + 1) 3 3 b [-2, 5, -1] (w7.alloc (.cells #[.int .i64 (-2), .int .i64 5, .int .i64 (-1)] 2)) hk (by omega) HBY.out (CD.out _ LA.out.on) (by omega) LA.out.sr rfl (by omega) (by omega) (sl_new w7 _ _ [-2, 5, -1] 3 (fun q hq => by rcases (show q = 0 ∨ q = 1 ∨ q = 2 by omega) with rfl | rfl | rfl <;> rfl)) (by omega) (by simp))
      go_wp2_with fail
      refine CP.out.mono ?_
      rintro e w8 ⟨r3, hr3, rfl, hs8, ho8⟩
      generalize gi [-2, 5, -1] r3 = v3 at *
      have LS := Lib.hid (LA.out.step hgw hs8 ho8)
      clear hs8 ho8 CP LA
      have x0 := cell_of_row w8 _ 0 _ _ _ LS.out.kb; have x1 := cell_of_row w8 _ 1 _ _ _ LS.out.kb; have f0 := frozen_of_row w8 _ 0 _ _ LS.out.kb; have f1 := frozen_of_row w8 _ 1 _ _ LS.out.kb
      simp at x0 x1
      obtain ⟨w9, hw9⟩ : ∃ w9, w9 = w8.setCell ⟨s3, 0, none⟩ (.int .i64 v3) := ⟨_, rfl⟩
      have LT := Lib.hid (LS.out.owner v3)
      rw [← hw9] at LT
      go_upto_region 6 with (fail)
      rw [← hw9]
      clear hw9 x0 x1 f0 f1 LS
      have LS := LT
      have x0 := cell_of_row w9 _ 0 _ _ _ LS.out.kb; have x1 := cell_of_row w9 _ 1 _ _ _ LS.out.kb; have f0 := frozen_of_row w9 _ 0 _ _ LS.out.kb; have f1 := frozen_of_row w9 _ 1 _ _ LS.out.kb
      simp at x0 x1
      have r0 := cell_of_row w9 _ 0 _ _ _ LS.out.kr; have r1 := cell_of_row w9 _ 1 _ _ _ LS.out.kr; have e0 := frozen_of_row w9 _ 0 _ _ LS.out.kr; have e1 := frozen_of_row w9 _ 1 _ _ LS.out.kr
      simp at r0 r1
      go_wp2
      refine bodyPost_ret (results_cell_row rfl _ _ _ _ _ (0, 0) _ rfl (heap_setCell_same _ _ 1 _ _ _ (heap_setCell_same _ _ 0 _ _ _ LS.out.kr)) Tryd.underlying26 rfl (by kernel_rfl)) rfl ?_
      exact LS.out.done (by omega)
  ·
    have x0 := cell_of_row w5 _ 0 _ _ _ LS.out.kb; have x1 := cell_of_row w5 _ 1 _ _ _ LS.out.kb; have f0 := frozen_of_row w5 _ 0 _ _ LS.out.kb; have f1 := frozen_of_row w5 _ 1 _ _ LS.out.kb
    simp at x0 x1
    obtain ⟨w6, hw6⟩ : ∃ w6, w6 = (w5.setCell ⟨s3, 0, none⟩ (.int .i64 (-1))).setCell ⟨s3, 1, none⟩ (.slice none 0 0) := ⟨_, rfl⟩
    have LT := Lib.hid (LS.out.free (-1))
    rw [← hw6] at LT
    go_upto_region 4 with (fail)
    rw [← hw6]
    clear hw6 x0 x1 f0 f1 LS
    have LS := LT
    clear LT
    have C2 := Lib.hid (l1Chance_any lo (min hi w.heap.size) g A k c (a3 + 1) 14 b w6 (by omega) hk (by omega) HBY.out (CD.out w6 LS.out.on) (by omega) LS.out.sr)
    go_wp2_with fail
    refine C2.out.mono ?_
    rintro e w7 ⟨y2, rfl, hs7, ho7⟩
    have LS := Lib.hid (LS.out.step hgw hs7 ho7)
    clear hs7 ho7 C2
    rcases y2 with _ | _
    · go_upto_region 6 with (fail)
      have x0 := cell_of_row w7 _ 0 _ _ _ LS.out.kb; have x1 := cell_of_row w7 _ 1 _ _ _ LS.out.kb; have f0 := frozen_of_row w7 _ 0 _ _ LS.out.kb; have f1 := frozen_of_row w7 _ 1 _ _ LS.out.kb
      simp at x0 x1
      have r0 := cell_of_row w7 _ 0 _ _ _ LS.out.kr; have r1 := cell_of_row w7 _ 1 _ _ _ LS.out.kr; have e0 := frozen_of_row w7 _ 0 _ _ LS.out.kr; have e1 := frozen_of_row w7 _ 1 _ _ LS.out.kr
      simp at r0 r1
      go_wp2
      refine bodyPost_ret (results_cell_row rfl _ _ _ _ _ (0, 0) _ rfl (heap_setCell_same _ _ 1 _ _ _ (heap_setCell_same _ _ 0 _ _ _ LS.out.kr)) Tryd.underlying26 rfl (by kernel_rfl)) rfl ?_
      exact LS.out.done (by omega)
    · have hsz7 : w.heap.size < w7.heap.size := by have := LS.out.on.1.size; have := (Array.getElem?_eq_some_iff.1 LS.out.kr).1; omega
      have LA := Lib.hid (LS.out.alloc (.cells #[.int .i64 (-2), .int .i64 5, .int .i64 (-1)] 2))
      have CP := Lib.hid (l1Pick_any lo (min hi w.heap.size) g w7.heap.size (w7.heap.size + 1) A (some ⟨w7.heap.size, 0, none⟩) k c (a3 + 1 + 1) 3 3 b [-2, 5, -1] (w7.alloc (.cells #[.int .i64 (-2), .int .i64 5, .int .i64 (-1)] 2)) hk (by omega) HBY.out (CD.out _ LA.out.on) (by omega) LA.out.sr rfl (by omega) (by omega) (sl_new w7 _ _ [-2, 5, -1] 3 (fun q hq => by rcases (show q = 0 ∨ q = 1 ∨ q = 2 by omega) with rfl | rfl | rfl <;> rfl)) (by omega) (by simp))
      go_wp2_with fail
      refine CP.out.mono ?_
      rintro e w8 ⟨r3, hr3, rfl, hs8, ho8⟩
      generalize gi [-2, 5, -1] r3 = v3 at *
      have LS := Lib.hid (LA.out.step hgw hs8 ho8)
      clear hs8 ho8 CP LA
      have x0 := cell_of_row w8 _ 0 _ _ _ LS.out.kb; have x1 := cell_of_row w8 _ 1 _ _ _ LS.out.kb; have f0 := frozen_of_row w8 _ 0 _ _ LS.out.kb; have f1 := frozen_of_row w8 _ 1 _ _ LS.out.kb
      simp at x0 x1
      obtain ⟨w9, hw9⟩ : ∃ w9, w9 = w8.setCell ⟨s3, 0, none⟩ (.int .i64 v3) := ⟨_, rfl⟩
      have LT := Lib.hid (LS.out.owner v3)
      rw [← hw9] at LT
      go_upto_region 6 with (fail)
      rw [← hw9]
      clear hw9 x0 x1 f0 f1 LS
      have LS := LT
      have x0 := cell_of_row w9 _ 0 _ _ _ LS.out.kb; have x1 := cell_of_row w9 _ 1 _ _ _ LS.out.kb; have f0 := frozen_of_row w9 _ 0 _ _ LS.out.kb; have f1 := frozen_of_row w9 _ 1 _ _ LS.out.kb
      simp at x0 x1
      have r0 := cell_of_row w9 _ 0 _ _ _ LS.out.kr; have r1 := cell_of_row w9 _ 1 _ _ _ LS.out.kr; have e0 := frozen_of_row w9 _ 0 _ _ LS.out.kr; have e1 := frozen_of_row w9 _ 1 _ _ LS.out.kr
      simp at r0 r1
      go_wp2
      refine bodyPost_ret (results_cell_row rfl _ _ _ _ _ (0, 0) _ rfl (heap_setCell_same _ _ 1 _ _ _ (heap_setCell_same _ _ 0 _ _ _ LS.out.kr)) Tryd.underlying26 rfl (by kernel_rfl)) rfl ?_
      exact LS.out.done (by omega)

end Go.Proofs.YtachpoehejdpjaaDoor
