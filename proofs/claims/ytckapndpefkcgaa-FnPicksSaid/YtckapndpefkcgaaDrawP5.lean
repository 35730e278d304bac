/-
  What the draws of chapter 5 answer: schedules that were perhaps bent, numbers beside them. For codes of at most 2^20 bytes.
-/
import Derived.Test.YtckapndpefkcgaaBent5
set_option maxHeartbeats 1000000
namespace Go.Proofs.Ytckapndpefkcgaa
open Go.RowKit
set_option maxRecDepth 100000

/-- a schedule of one's own and the source -/
structure HX (w W : World) (g : Nat) (A : Option Addr) (k c a : Nat) (B : Option Addr) (c' : Nat) (xs : List R3) : Prop where
  ow : OR 52 3 W w.heap.size B xs.length c' (fl xs)
  sr : Src W g A k c a
  on : Only g (g + 1) w W
  gw : g < w.heap.size
theorem HX.step {w W W' : World} {g k c a a' c' : Nat} {A B : Option Addr} {xs : List R3} (h : HX w W g A k c a B c' xs) (hs : Src W' g A k c a') (ho : Only g (g + 1) W W') : HX w W' g A k c a' B c' xs :=
  ⟨h.ow.keepAll fun b e => by
    subst e
    have hl := h.ow.lt
    exact ho.2 b (by have := h.gw; omega) hl.2, hs, h.on.trans ho, h.gw⟩
theorem HX.below {w W W' : World} {g k c a c' : Nat} {A B : Option Addr} {xs : List R3} (h : HX w W g A k c a B c' xs) (hb : Below W.heap.size W W') : HX w W' g A k c a B c' xs :=
  ⟨h.ow.below hb (Nat.le_refl _), h.sr.below hb, ⟨h.on.1.trans (hb.mono (by have := h.gw; have := h.on.1.size; omega)), fun q h1 h2 => (hb.block q (by have := h.on.1.size; omega)).trans (h.on.2 q h1 h2)⟩, h.gw⟩
/-- schedules of one's own, with numbers -/
def SchC (w : World) (e : Ending) (w' : World) : Prop :=
  ∃ (b : Int) (B : Option Addr) (c' : Nat) (xs : List R3), e = .returned (.agg #[.int .i64 b, .slice B xs.length c']) ∧ xs.length ≤ 6 ∧ OR 52 3 w' w.heap.size B xs.length c' (fl xs) ∧ Below w.heap.size w w'
def SchN (w : World) (e : Ending) (w' : World) : Prop :=
  ∃ (b : Int) (B : Option Addr) (c' : Nat) (xs : List R3) (n : Int), e = .returned (.tuple #[.agg #[.int .i64 b, .slice B xs.length c'], .int .i64 n]) ∧ xs.length ≤ 6 ∧ (-1 ≤ n ∧ n ≤ 201) ∧ OR 52 3 w' w.heap.size B xs.length c' (fl xs) ∧ Below w.heap.size w w'
theorem OR.ltq {t : TypeId} {m : Nat} {w : World} {base n c q : Nat} {A : Option Addr} {hs : List Int} (h : OR t m w base A n c hs) (e : A = some ⟨q, 0, none⟩) : base ≤ q ∧ q < w.heap.size := by subst e; exact h.lt
set_option maxHeartbeats 8000000 in
theorem DrawPickSched_any (lo hi : Nat) (A : Option Addr) (k c : Nat) (b : Nat → Int) (w : World) (hk : k ≤ 1048576) (hb : ∀ j, 0 ≤ b j ∧ b j ≤ 255) (h : Sl w lo hi A k (fun j => .int .u8 (b j))) :
    Calls Try.prog 44 #[.slice A k c] w (SchC w) := by
  have HBY := Lib.hid hb
  have CD : Hid (∀ W, Below w.heap.size w W → Sl W lo (min hi w.heap.size) A k (fun j => .int .u8 (b j))) := fun W hW => h.lt.below hW (by omega)
  obtain ⟨w1, hw1⟩ : ∃ w1, w1 = w.alloc (.cells #[.int .i64 0, .slice none 0 0] 43) := ⟨_, rfl⟩
  have z1 : w1.heap.size = w.heap.size + 1 := by rw [hw1]; simp
  have N1 : Below w.heap.size w w1 := by rw [hw1]; exact below_new w _
  have K1 : w1.heap[w.heap.size]? = some (.cells #[.int .i64 0, .slice none 0 0] 43 (0, 0)) := by rw [hw1]; exact heap_alloc_new w _
  have FB : Hid (∀ W, Below w1.heap.size w1 W → W.heap[w.heap.size]? = some (.cells #[.int .i64 0, .slice none 0 0] 43 (0, 0)) ∧ Below w.heap.size w W) := fun W hW =>
    ⟨(hW.block _ (by omega)).trans K1, N1.trans (hW.mono (by omega))⟩
  have HW1 := Lib.hid hw1
  have C1 := Lib.hid (l1Source_any A k c w1)
  obtain ⟨g, hgz⟩ : ∃ g, g = w1.heap.size := ⟨_, rfl⟩
  rw [← hgz] at C1
  have hg2 : w1.heap.size ≤ g := by omega
  have hg3 : w.heap.size + 1 = g := by omega
  clear h hb hw1 z1 N1 K1 hgz
  go_enter Try.func44, Try.ntmps44
  go_upto_region 1 with (fail)
  rw [← HW1.out]
  clear HW1
  go_wp2_with fail
  refine C1.out.mono ?_
  rintro e w3 ⟨rfl, hs3, hb3⟩
  have B3 : Hid (Below w1.heap.size w1 w3) := hb3.mono hg2
  have z3 : g < w3.heap.size := hs3.lt
  have CB := Lib.hid (l5Bent_any lo (min hi w.heap.size) g A k c 0 b w3 hk (by omega) HBY.out (CD.out w3 (FB.out w3 B3.out).2) (by omega) hs3)
  clear hs3 hb3 C1
  go_wp2_with fail
  refine CB.out.mono ?_
  rintro e w4 ⟨b5, B, c', xs, a4, rfl, hn, ha4, _, hO, hs4, ho4⟩
  have J4 : Hid (HX w3 w4 g A k c a4 B c' xs) := ⟨hO, hs4, ho4, z3⟩
  have B4 : Hid (Below w1.heap.size w1 w4) := B3.out.trans (ho4.1.mono hg2)
  clear hO hs4 ho4 CB B3
  have r0 := cell_of_row w4 _ 0 _ _ _ (FB.out w4 B4.out).1; have r1 := cell_of_row w4 _ 1 _ _ _ (FB.out w4 B4.out).1
  have f0 := frozen_of_row w4 _ 0 _ _ (FB.out w4 B4.out).1; have f1 := frozen_of_row w4 _ 1 _ _ (FB.out w4 B4.out).1
  simp at r0 r1
  go_wp2
  obtain ⟨wf, hwf⟩ : ∃ V, V = (w4.setCell ⟨w.heap.size, 0, none⟩ (.int .i64 b5)).setCell ⟨w.heap.size, 1, none⟩ (.slice B xs.length c') := ⟨_, rfl⟩
  have HK : wf.heap[w.heap.size]? = some (.cells #[.int .i64 b5, .slice B xs.length c'] 43 (0, 0)) := by rw [hwf]; exact heap_setCell_same _ _ 1 _ _ _ (heap_setCell_same _ _ 0 _ _ _ (FB.out w4 B4.out).1)
  have HV : ∀ q, q ≠ w.heap.size → wf.heap[q]? = w4.heap[q]? := fun q hq => by rw [hwf]; exact (Below.heap_setCell _ ⟨w.heap.size, 1, none⟩ _ q (by simpa using hq)).trans (Below.heap_setCell _ ⟨w.heap.size, 0, none⟩ _ q (by simpa using hq))
  have HBL : Below w.heap.size w wf := by rw [hwf]; exact ((FB.out w4 B4.out).2.setCell (p := ⟨w.heap.size, 0, none⟩) (by simp) _).setCell (p := ⟨w.heap.size, 1, none⟩) (by simp) _
  rw [← hwf]
  clear hwf
  have OZ : OR 52 3 wf w3.heap.size B xs.length c' (fl xs) := J4.out.ow.keepAll fun q e => HV q (by have := J4.out.ow.ltq e; omega)
  refine bodyPost_ret (results_cell_row rfl _ _ w.heap.size _ _ (0, 0) _ rfl HK Try.underlying43 rfl (by kernel_rfl)) rfl ?_
  exact ⟨b5, B, c', xs, rfl, hn, OZ.mono (by omega), HBL⟩

set_option maxHeartbeats 8000000 in
theorem DrawRebaseSched_any (lo hi : Nat) (A : Option Addr) (k c : Nat) (b : Nat → Int) (w : World) (hk : k ≤ 1048576) (hb : ∀ j, 0 ≤ b j ∧ b j ≤ 255) (h : Sl w lo hi A k (fun j => .int .u8 (b j))) :
    Calls Try.prog 46 #[.slice A k c] w (SchC w) := by
  have HBY := Lib.hid hb
  have CD : Hid (∀ W, Below w.heap.size w W → Sl W lo (min hi w.heap.size) A k (fun j => .int .u8 (b j))) := fun W hW => h.lt.below hW (by omega)
  obtain ⟨w1, hw1⟩ : ∃ w1, w1 = w.alloc (.cells #[.int .i64 0, .slice none 0 0] 43) := ⟨_, rfl⟩
  have z1 : w1.heap.size = w.heap.size + 1 := by rw [hw1]; simp
  have N1 : Below w.heap.size w w1 := by rw [hw1]; exact below_new w _
  have K1 : w1.heap[w.heap.size]? = some (.cells #[.int .i64 0, .slice none 0 0] 43 (0, 0)) := by rw [hw1]; exact heap_alloc_new w _
  have FB : Hid (∀ W, Below w1.heap.size w1 W → W.heap[w.heap.size]? = some (.cells #[.int .i64 0, .slice none 0 0] 43 (0, 0)) ∧ Below w.heap.size w W) := fun W hW =>
    ⟨(hW.block _ (by omega)).trans K1, N1.trans (hW.mono (by omega))⟩
  have HW1 := Lib.hid hw1
  have C1 := Lib.hid (l1Source_any A k c w1)
  obtain ⟨g, hgz⟩ : ∃ g, g = w1.heap.size := ⟨_, rfl⟩
  rw [← hgz] at C1
  have hg2 : w1.heap.size ≤ g := by omega
  have hg3 : w.heap.size + 1 = g := by omega
  clear h hb hw1 z1 N1 K1 hgz
  go_enter Try.func46, Try.ntmps46
  go_upto_region 1 with (fail)
  rw [← HW1.out]
  clear HW1
  go_wp2_with fail
  refine C1.out.mono ?_
  rintro e w3 ⟨rfl, hs3, hb3⟩
  have B3 : Hid (Below w1.heap.size w1 w3) := hb3.mono hg2
  have z3 : g < w3.heap.size := hs3.lt
  have CB := Lib.hid (l5Bent_any lo (min hi w.heap.size) g A k c 0 b w3 hk (by omega) HBY.out (CD.out w3 (FB.out w3 B3.out).2) (by omega) hs3)
  clear hs3 hb3 C1
  go_wp2_with fail
  refine CB.out.mono ?_
  rintro e w4 ⟨b5, B, c', xs, a4, rfl, hn, ha4, _, hO, hs4, ho4⟩
  have J4 : Hid (HX w3 w4 g A k c a4 B c' xs) := ⟨hO, hs4, ho4, z3⟩
  have B4 : Hid (Below w1.heap.size w1 w4) := B3.out.trans (ho4.1.mono hg2)
  clear hO hs4 ho4 CB B3
  have r0 := cell_of_row w4 _ 0 _ _ _ (FB.out w4 B4.out).1; have r1 := cell_of_row w4 _ 1 _ _ _ (FB.out w4 B4.out).1
  have f0 := frozen_of_row w4 _ 0 _ _ (FB.out w4 B4.out).1; have f1 := frozen_of_row w4 _ 1 _ _ (FB.out w4 B4.out).1
  simp at r0 r1
  go_wp2
  obtain ⟨wf, hwf⟩ : ∃ V, V = (w4.setCell ⟨w.heap.size, 0, none⟩ (.int .i64 b5)).setCell ⟨w.heap.size, 1, none⟩ (.slice B xs.length c') := ⟨_, rfl⟩
  have HK : wf.heap[w.heap.size]? = some (.cells #[.int .i64 b5, .slice B xs.length c'] 43 (0, 0)) := by rw [hwf]; exact heap_setCell_same _ _ 1 _ _ _ (heap_setCell_same _ _ 0 _ _ _ (FB.out w4 B4.out).1)
  have HV : ∀ q, q ≠ w.heap.size → wf.heap[q]? = w4.heap[q]? := fun q hq => by rw [hwf]; exact (Below.heap_setCell _ ⟨w.heap.size, 1, none⟩ _ q (by simpa using hq)).trans (Below.heap_setCell _ ⟨w.heap.size, 0, none⟩ _ q (by simpa using hq))
  have HBL : Below w.heap.size w wf := by rw [hwf]; exact ((FB.out w4 B4.out).2.setCell (p := ⟨w.heap.size, 0, none⟩) (by simp) _).setCell (p := ⟨w.heap.size, 1, none⟩) (by simp) _
  rw [← hwf]
  clear hwf
  have OZ : OR 52 3 wf w3.heap.size B xs.length c' (fl xs) := J4.out.ow.keepAll fun q e => HV q (by have := J4.out.ow.ltq e; omega)
  refine bodyPost_ret (results_cell_row rfl _ _ w.heap.size _ _ (0, 0) _ rfl HK Try.underlying43 rfl (by kernel_rfl)) rfl ?_
  exact ⟨b5, B, c', xs, rfl, hn, OZ.mono (by omega), HBL⟩

set_option maxHeartbeats 8000000 in
theorem DrawPicksOf_any (lo hi : Nat) (A : Option Addr) (k c : Nat) (b : Nat → Int) (w : World) (hk : k ≤ 1048576) (hb : ∀ j, 0 ≤ b j ∧ b j ≤ 255) (h : Sl w lo hi A k (fun j => .int .u8 (b j))) :
    Calls Try.prog 43 #[.slice A k c] w (SchN w) := by
  have HBY := Lib.hid hb
  have CD : Hid (∀ W, Below w.heap.size w W → Sl W lo (min hi w.heap.size) A k (fun j => .int .u8 (b j))) := fun W hW => h.lt.below hW (by omega)
  obtain ⟨w1, hw1⟩ : ∃ w1, w1 = w.alloc (.cells #[.int .i64 0, .slice none 0 0] 43) := ⟨_, rfl⟩
  have z1 : w1.heap.size = w.heap.size + 1 := by rw [hw1]; simp
  have N1 : Below w.heap.size w w1 := by rw [hw1]; exact below_new w _
  have K1 : w1.heap[w.heap.size]? = some (.cells #[.int .i64 0, .slice none 0 0] 43 (0, 0)) := by rw [hw1]; exact heap_alloc_new w _
  have FB : Hid (∀ W, Below w1.heap.size w1 W → W.heap[w.heap.size]? = some (.cells #[.int .i64 0, .slice none 0 0] 43 (0, 0)) ∧ Below w.heap.size w W) := fun W hW =>
    ⟨(hW.block _ (by omega)).trans K1, N1.trans (hW.mono (by omega))⟩
  have HW1 := Lib.hid hw1
  have C1 := Lib.hid (l1Source_any A k c w1)
  obtain ⟨g, hgz⟩ : ∃ g, g = w1.heap.size := ⟨_, rfl⟩
  rw [← hgz] at C1
  have hg2 : w1.heap.size ≤ g := by omega
  have hg3 : w.heap.size + 1 = g := by omega
  clear h hb hw1 z1 N1 K1 hgz
  go_enter Try.func43, Try.ntmps43
  go_upto_region 1 with (fail)
  rw [← HW1.out]
  clear HW1
  go_wp2_with fail
  refine C1.out.mono ?_
  rintro e w3 ⟨rfl, hs3, hb3⟩
  have B3 : Hid (Below w1.heap.size w1 w3) := hb3.mono hg2
  have z3 : g < w3.heap.size := hs3.lt
  have CB := Lib.hid (l5Bent_any lo (min hi w.heap.size) g A k c 0 b w3 hk (by omega) HBY.out (CD.out w3 (FB.out w3 B3.out).2) (by omega) hs3)
  clear hs3 hb3 C1
  go_wp2_with fail
  refine CB.out.mono ?_
  rintro e w4 ⟨b5, B, c', xs, a4, rfl, hn, ha4, _, hO, hs4, ho4⟩
  have J4 : Hid (HX w3 w4 g A k c a4 B c' xs) := ⟨hO, hs4, ho4, z3⟩
  have B4 : Hid (Below w1.heap.size w1 w4) := B3.out.trans (ho4.1.mono hg2)
  clear hO hs4 ho4 CB B3
  have CP := Lib.hid (pick_lit lo (min hi w.heap.size) g A k c (a4) 7 2 #[.int .i64 0, .int .i64 1, .int .i64 10, .int .i64 50, .int .i64 200, .int .i64 201, .int .i64 (-1)] b [0, 1, 10, 50, 200, 201, -1] w4 hk (by omega) HBY.out (CD.out w4 (FB.out w4 B4.out).2) (by omega) J4.out.sr rfl (by omega) (by omega) (fun q hq => by rcases (show q = 0 ∨ q = 1 ∨ q = 2 ∨ q = 3 ∨ q = 4 ∨ q = 5 ∨ q = 6 by omega) with rfl | rfl | rfl | rfl | rfl | rfl | rfl <;> rfl))
  go_wp2_with fail
  refine CP.out.mono ?_
  rintro e w5 ⟨r9, hr9, rfl, hs, ho, hz9⟩
  have fv : -1 ≤ (gi [0, 1, 10, 50, 200, 201, -1] r9) ∧ (gi [0, 1, 10, 50, 200, 201, -1] r9) ≤ 201 := by rcases (show r9 = 0 ∨ r9 = 1 ∨ r9 = 2 ∨ r9 = 3 ∨ r9 = 4 ∨ r9 = 5 ∨ r9 = 6 by omega) with rfl | rfl | rfl | rfl | rfl | rfl | rfl <;> decide
  generalize gi [0, 1, 10, 50, 200, 201, -1] r9 = v at *
  clear hr9 CP hz9
  have J5 := Lib.hid (J4.out.step hs ho)
  have B5 : Hid (Below w1.heap.size w1 w5) := B4.out.trans (ho.1.mono hg2)
  clear hs ho J4 B4
  have FV := Lib.hid fv
  clear fv
  have r0 := cell_of_row w5 _ 0 _ _ _ (FB.out w5 B5.out).1; have r1 := cell_of_row w5 _ 1 _ _ _ (FB.out w5 B5.out).1
  have f0 := frozen_of_row w5 _ 0 _ _ (FB.out w5 B5.out).1; have f1 := frozen_of_row w5 _ 1 _ _ (FB.out w5 B5.out).1
  simp at r0 r1
  go_wp2
  obtain ⟨wf, hwf⟩ : ∃ V, V = (w5.setCell ⟨w.heap.size, 0, none⟩ (.int .i64 b5)).setCell ⟨w.heap.size, 1, none⟩ (.slice B xs.length c') := ⟨_, rfl⟩
  have HK : wf.heap[w.heap.size]? = some (.cells #[.int .i64 b5, .slice B xs.length c'] 43 (0, 0)) := by rw [hwf]; exact heap_setCell_same _ _ 1 _ _ _ (heap_setCell_same _ _ 0 _ _ _ (FB.out w5 B5.out).1)
  have HV : ∀ q, q ≠ w.heap.size → wf.heap[q]? = w5.heap[q]? := fun q hq => by rw [hwf]; exact (Below.heap_setCell _ ⟨w.heap.size, 1, none⟩ _ q (by simpa using hq)).trans (Below.heap_setCell _ ⟨w.heap.size, 0, none⟩ _ q (by simpa using hq))
  have HBL : Below w.heap.size w wf := by rw [hwf]; exact ((FB.out w5 B5.out).2.setCell (p := ⟨w.heap.size, 0, none⟩) (by simp) _).setCell (p := ⟨w.heap.size, 1, none⟩) (by simp) _
  rw [← hwf]
  clear hwf
  have OZ : OR 52 3 wf w3.heap.size B xs.length c' (fl xs) := J5.out.ow.keepAll fun q e => HV q (by have := J5.out.ow.ltq e; omega)
  refine bodyPost_ret (results_row_tmp rfl _ _ w.heap.size _ _ (0, 0) _ rfl HK Try.underlying43 rfl (by kernel_rfl)) rfl ?_
  exact ⟨b5, B, c', xs, v, rfl, hn, FV.out, OZ.mono (by omega), HBL⟩

set_option maxHeartbeats 8000000 in
theorem DrawIsFair_any (lo hi : Nat) (A : Option Addr) (k c : Nat) (b : Nat → Int) (w : World) (hk : k ≤ 1048576) (hb : ∀ j, 0 ≤ b j ∧ b j ≤ 255) (h : Sl w lo hi A k (fun j => .int .u8 (b j))) :
    Calls Try.prog 25 #[.slice A k c] w (SchN w) := by
  have HBY := Lib.hid hb
  have CD : Hid (∀ W, Below w.heap.size w W → Sl W lo (min hi w.heap.size) A k (fun j => .int .u8 (b j))) := fun W hW => h.lt.below hW (by omega)
  obtain ⟨w1, hw1⟩ : ∃ w1, w1 = w.alloc (.cells #[.int .i64 0, .slice none 0 0] 43) := ⟨_, rfl⟩
  have z1 : w1.heap.size = w.heap.size + 1 := by rw [hw1]; simp
  have N1 : Below w.heap.size w w1 := by rw [hw1]; exact below_new w _
  have K1 : w1.heap[w.heap.size]? = some (.cells #[.int .i64 0, .slice none 0 0] 43 (0, 0)) := by rw [hw1]; exact heap_alloc_new w _
  have FB : Hid (∀ W, Below w1.heap.size w1 W → W.heap[w.heap.size]? = some (.cells #[.int .i64 0, .slice none 0 0] 43 (0, 0)) ∧ Below w.heap.size w W) := fun W hW =>
    ⟨(hW.block _ (by omega)).trans K1, N1.trans (hW.mono (by omega))⟩
  have HW1 := Lib.hid hw1
  have CP := Lib.hid (DrawPicksOf_any lo (min hi w.heap.size) A k c b w1 hk HBY.out (CD.out w1 N1))
  clear h hb hw1 N1 K1
  go_enter Try.func25, Try.ntmps25
  go_upto_region 1 with (fail)
  rw [← HW1.out]
  clear HW1
  go_wp2_with fail
  refine CP.out.mono ?_
  rintro e w3 ⟨b5, B, c', xs, v, rfl, hn, hv, hO, hbl⟩
  have B3 : Hid (Below w1.heap.size w1 w3) := hbl
  have O3 := Lib.hid hO
  have FV := Lib.hid hv
  clear hO hbl hv CP
  have r0 := cell_of_row w3 _ 0 _ _ _ (FB.out w3 B3.out).1; have r1 := cell_of_row w3 _ 1 _ _ _ (FB.out w3 B3.out).1
  have f0 := frozen_of_row w3 _ 0 _ _ (FB.out w3 B3.out).1; have f1 := frozen_of_row w3 _ 1 _ _ (FB.out w3 B3.out).1
  simp at r0 r1
  go_wp2
  obtain ⟨wf, hwf⟩ : ∃ V, V = (w3.setCell ⟨w.heap.size, 0, none⟩ (.int .i64 b5)).setCell ⟨w.heap.size, 1, none⟩ (.slice B xs.length c') := ⟨_, rfl⟩
  have HK : wf.heap[w.heap.size]? = some (.cells #[.int .i64 b5, .slice B xs.length c'] 43 (0, 0)) := by rw [hwf]; exact heap_setCell_same _ _ 1 _ _ _ (heap_setCell_same _ _ 0 _ _ _ (FB.out w3 B3.out).1)
  have HV : ∀ q, q ≠ w.heap.size → wf.heap[q]? = w3.heap[q]? := fun q hq => by rw [hwf]; exact (Below.heap_setCell _ ⟨w.heap.size, 1, none⟩ _ q (by simpa using hq)).trans (Below.heap_setCell _ ⟨w.heap.size, 0, none⟩ _ q (by simpa using hq))
  have HBL : Below w.heap.size w wf := by rw [hwf]; exact ((FB.out w3 B3.out).2.setCell (p := ⟨w.heap.size, 0, none⟩) (by simp) _).setCell (p := ⟨w.heap.size, 1, none⟩) (by simp) _
  rw [← hwf]
  clear hwf
  have OZ : OR 52 3 wf w1.heap.size B xs.length c' (fl xs) := O3.out.keepAll fun q e => HV q (by have := O3.out.ltq e; omega)
  refine bodyPost_ret (results_row_tmp rfl _ _ w.heap.size _ _ (0, 0) _ rfl HK Try.underlying43 rfl (by kernel_rfl)) rfl ?_
  exact ⟨b5, B, c', xs, v, rfl, hn, FV.out, OZ.mono (by omega), HBL⟩

end Go.Proofs.Ytckapndpefkcgaa
