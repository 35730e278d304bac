/-
  The draws of chapter 2: each returns an account (and a yes or no), and turns nothing that was there. For codes of at most 2^20 bytes.
-/
import Derived.Test.YtmbgelhkodjilaaPick
namespace Go.Proofs.Ytmbgelhkodjilaa
open Go.RowKit

/-- a drawn account; the source is four places on -/
def Drawn2 (g : Nat) (A : Option Addr) (k c a : Nat) (w : World) (e : Ending) (w' : World) : Prop :=
  ∃ u x y d : Int, e = .returned (.agg #[.int .i64 u, .int .i64 x, .int .i64 y, .int .i64 d]) ∧ Src w' g A k c (a + 4) ∧ Only g (g + 1) w w'

set_option maxHeartbeats 1000000 in
theorem l2Draw_any (lo hi g : Nat) (A : Option Addr) (k c a : Nat) (b : Nat → Int) (w : World) (hk : k ≤ 1048576) (ha : a ≤ 1048576)
    (hb : ∀ j, 0 ≤ b j ∧ b j ≤ 255) (h : Sl w lo hi A k (fun j => .int .u8 (b j))) (hg : hi ≤ g) (hs : Src w g A k c a) :
    Calls Try.prog 26 #[.pointer (some ⟨g, 0, none⟩)] w (Drawn2 g A k c a w) := by
  have hgw := hs.lt
  have HBY := Lib.hid hb
  have H0 : Hid (Sl (w.alloc (.cells #[.int .i64 0, .int .i64 0, .int .i64 0, .int .i64 0] 25)) lo (min hi w.heap.size) A k (fun j => .int .u8 (b j))) := h.lt.below (below_new w _) (by omega)
  have S0 := Lib.hid (hs.alloc (.cells #[.int .i64 0, .int .i64 0, .int .i64 0, .int .i64 0] 25))
  have O0 : Hid (Only g (g + 1) w (w.alloc (.cells #[.int .i64 0, .int .i64 0, .int .i64 0, .int .i64 0] 25))) := (Only.refl _ _ _).alloc (by omega) _
  have K0 := Lib.hid (heap_alloc_new w (.cells #[.int .i64 0, .int .i64 0, .int .i64 0, .int .i64 0] 25))
  clear h hb hs
  go_enter Try.func26, Try.ntmps26
  go_wp2_with fail
  have C := pick_lit lo (min hi w.heap.size) g A k c a 9 2 #[.int .i64 0, .int .i64 5, .int .i64 99, .int .i64 999999, .int .i64 1000000, .int .i64 1000001, .int .i64 (-1), .int .i64 7, .int .i64 8] b [0, 5, 99, 999999, 1000000, 1000001, -1, 7, 8] _ hk (by omega) HBY.out H0.out (by omega) S0.out rfl (by omega) (by omega)
    (fun q hq => by rcases (show q = 0 ∨ q = 1 ∨ q = 2 ∨ q = 3 ∨ q = 4 ∨ q = 5 ∨ q = 6 ∨ q = 7 ∨ q = 8 by omega) with rfl | rfl | rfl | rfl | rfl | rfl | rfl | rfl | rfl <;> rfl)
  simp only [World.size_alloc] at C
  refine C.mono ?_
  rintro e w1 ⟨r, _, rfl, hs1, ho1, hz1⟩
  generalize gi [0, 5, 99, 999999, 1000000, 1000001, -1, 7, 8] r = u
  have H1 := Lib.hid (H0.out.only ho1 (by simp; omega) (.inl (by omega)))
  have S1 := Lib.hid hs1
  have O1 := Lib.hid (O0.out.trans ho1)
  have K1 := Lib.hid ((ho1.2 w.heap.size (by omega) (by simp)).trans K0.out)
  clear C hs1 ho1 H0 S0 O0 K0
  go_wp2_with fail
  refine (pick_lit lo (min hi w.heap.size) g A k c (a + 1) 7 2 #[.int .i64 0, .int .i64 5, .int .i64 1000000, .int .i64 3, .int .i64 4, .int .i64 9, .int .i64 (-1)] b [0, 5, 1000000, 3, 4, 9, -1] w1 hk (by omega) HBY.out H1.out (by omega) S1.out rfl (by omega) (by omega)
    (fun q hq => by rcases (show q = 0 ∨ q = 1 ∨ q = 2 ∨ q = 3 ∨ q = 4 ∨ q = 5 ∨ q = 6 by omega) with rfl | rfl | rfl | rfl | rfl | rfl | rfl <;> rfl)).mono ?_
  rintro e w2 ⟨r, _, rfl, hs2, ho2, hz2⟩
  generalize gi [0, 5, 1000000, 3, 4, 9, -1] r = x
  have H2 := Lib.hid (H1.out.only ho2 (by omega) (.inl (by omega)))
  have S2 := Lib.hid hs2
  have O2 := Lib.hid (O1.out.trans ho2)
  have K2 := Lib.hid ((ho2.2 w.heap.size (by omega) (by omega)).trans K1.out)
  clear hs2 ho2 H1 S1 O1 K1
  go_wp2_with fail
  refine (pick_lit lo (min hi w.heap.size) g A k c (a + 1 + 1) 6 2 #[.int .i64 0, .int .i64 7, .int .i64 1000000, .int .i64 1, .int .i64 2, .int .i64 5] b [0, 7, 1000000, 1, 2, 5] w2 hk (by omega) HBY.out H2.out (by omega) S2.out rfl (by omega) (by omega)
    (fun q hq => by rcases (show q = 0 ∨ q = 1 ∨ q = 2 ∨ q = 3 ∨ q = 4 ∨ q = 5 by omega) with rfl | rfl | rfl | rfl | rfl | rfl <;> rfl)).mono ?_
  rintro e w3 ⟨r, _, rfl, hs3, ho3, hz3⟩
  generalize gi [0, 7, 1000000, 1, 2, 5] r = y
  have H3 := Lib.hid (H2.out.only ho3 (by omega) (.inl (by omega)))
  have S3 := Lib.hid hs3
  have O3 := Lib.hid (O2.out.trans ho3)
  have K3 := Lib.hid ((ho3.2 w.heap.size (by omega) (by omega)).trans K2.out)
  clear hs3 ho3 H2 S2 O2 K2
  go_wp2_with fail
  refine (pick_lit lo (min hi w.heap.size) g A k c (a + 1 + 1 + 1) 7 2 #[.int .i64 0, .int .i64 1, .int .i64 2, .int .i64 3, .int .i64 0, .int .i64 3, .int .i64 4] b [0, 1, 2, 3, 0, 3, 4] w3 hk (by omega) HBY.out H3.out (by omega) S3.out rfl (by omega) (by omega)
    (fun q hq => by rcases (show q = 0 ∨ q = 1 ∨ q = 2 ∨ q = 3 ∨ q = 4 ∨ q = 5 ∨ q = 6 by omega) with rfl | rfl | rfl | rfl | rfl | rfl | rfl <;> rfl)).mono ?_
  rintro e w4 ⟨r, _, rfl, hs4, ho4, hz4⟩
  generalize gi [0, 1, 2, 3, 0, 3, 4] r = d
  have k4 := (ho4.2 w.heap.size (by omega) (by omega)).trans K3.out
  have q0 := cell_of_row w4 _ 0 _ _ _ k4
  have q1 := cell_of_row w4 _ 1 _ _ _ k4
  have q2 := cell_of_row w4 _ 2 _ _ _ k4
  have q3 := cell_of_row w4 _ 3 _ _ _ k4
  have f0 := frozen_of_row w4 _ 0 _ _ k4
  have f1 := frozen_of_row w4 _ 1 _ _ k4
  have f2 := frozen_of_row w4 _ 2 _ _ k4
  have f3 := frozen_of_row w4 _ 3 _ _ k4
  simp at q0 q1 q2 q3
  have HK := Lib.hid (heap_setCell_same _ w.heap.size 3 _ _ (.int .i64 d) (heap_setCell_same _ w.heap.size 2 _ _ (.int .i64 y) (heap_setCell_same _ w.heap.size 1 _ _ (.int .i64 x) (heap_setCell_same w4 w.heap.size 0 _ _ (.int .i64 u) k4))))
  have S4 := Lib.hid hs4
  have O4 := Lib.hid (O3.out.trans ho4)
  clear hs4 ho4 H3 S3 O3 K3 k4
  go_wp2
  refine bodyPost_ret (results_cell_row rfl _ _ w.heap.size _ _ (0, 0) _ rfl HK.out Try.underlying25 rfl (by kernel_rfl)) rfl ?_
  refine ⟨u, x, y, d, rfl, ?_, ?_, fun q h1 h2 => ?_⟩
  · have e4 := S4.out
    unfold Src at e4 ⊢
    rw [Below.heap_setCell _ _ _ _ (by simp; omega), Below.heap_setCell _ _ _ _ (by simp; omega), Below.heap_setCell _ _ _ _ (by simp; omega), Below.heap_setCell _ _ _ _ (by simp; omega)]
    exact e4
  · exact (((O4.out.1.setCell (by simp; omega) _).setCell (by simp; omega) _).setCell (by simp; omega) _).setCell (by simp; omega) _
  · rw [Below.heap_setCell _ _ _ _ (by simp; omega), Below.heap_setCell _ _ _ _ (by simp; omega), Below.heap_setCell _ _ _ _ (by simp; omega), Below.heap_setCell _ _ _ _ (by simp; omega)]
    exact O4.out.2 q h1 h2

/-- an account that was drawn -/
def Acc2 (w : World) (e : Ending) (w' : World) : Prop := ∃ u x y d : Int, e = .returned (.agg #[.int .i64 u, .int .i64 x, .int .i64 y, .int .i64 d]) ∧ Below w.heap.size w w'
/-- an account and a yes or no that were drawn -/
def AccB2 (w : World) (e : Ending) (w' : World) : Prop := ∃ (u x y d : Int) (b : Bool), e = .returned (.tuple #[.agg #[.int .i64 u, .int .i64 x, .int .i64 y, .int .i64 d], .bool b]) ∧ Below w.heap.size w w'

theorem DrawPunishAccount_any (lo hi : Nat) (A : Option Addr) (k c : Nat) (b : Nat → Int) (w : World) (hk : k ≤ 1048576)
    (hb : ∀ j, 0 ≤ b j ∧ b j ≤ 255) (h : Sl w lo hi A k (fun j => .int .u8 (b j))) :
    Calls Try.prog 10 #[.slice A k c] w (Acc2 w) := by
  have H := Lib.hid h
  have HBY := Lib.hid hb
  have B0 := Lib.hid (below_new w (.cells #[.int .i64 0, .int .i64 0, .int .i64 0, .int .i64 0] 25))
  have K0 := Lib.hid (heap_alloc_new w (.cells #[.int .i64 0, .int .i64 0, .int .i64 0, .int .i64 0] 25))
  clear h hb
  go_enter Try.func10, Try.ntmps10
  go_wp2_with fail
  have C1 := l1Source_any A k c (w.alloc (.cells #[.int .i64 0, .int .i64 0, .int .i64 0, .int .i64 0] 25))
  rw [World.size_alloc] at C1
  refine C1.mono ?_
  rintro e w1 ⟨rfl, hs1, hb1⟩
  have hz1 : w.heap.size + 1 < w1.heap.size := hs1.lt
  have HC1 : Hid (Sl w1 lo (min hi w.heap.size) A k (fun j => .int .u8 (b j))) := H.out.lt.below (B0.out.trans (hb1.mono (by omega))) (by omega)
  have K1 := Lib.hid ((hb1.block w.heap.size (by omega)).trans K0.out)
  have B1 := Lib.hid (B0.out.trans (hb1.mono (by omega)))
  have CD := Lib.hid (l2Draw_any lo (min hi w.heap.size) (w.heap.size + 1) A k c 0 b w1 hk (by omega) HBY.out HC1.out (by omega) hs1)
  clear C1 hs1 hb1
  go_wp2_with fail
  refine CD.out.mono ?_
  rintro e w2 ⟨u, x, y, d, rfl, _, ho2⟩
  have hz2 : w1.heap.size ≤ w2.heap.size := ho2.1.size
  have k2 := (ho2.1.block w.heap.size (by omega)).trans K1.out
  have q0 := cell_of_row w2 _ 0 _ _ _ k2
  have q1 := cell_of_row w2 _ 1 _ _ _ k2
  have q2 := cell_of_row w2 _ 2 _ _ _ k2
  have q3 := cell_of_row w2 _ 3 _ _ _ k2
  have f0 := frozen_of_row w2 _ 0 _ _ k2
  have f1 := frozen_of_row w2 _ 1 _ _ k2
  have f2 := frozen_of_row w2 _ 2 _ _ k2
  have f3 := frozen_of_row w2 _ 3 _ _ k2
  simp at q0 q1 q2 q3
  have HK := Lib.hid (heap_setCell_same _ w.heap.size 3 _ _ (.int .i64 d) (heap_setCell_same _ w.heap.size 2 _ _ (.int .i64 y) (heap_setCell_same _ w.heap.size 1 _ _ (.int .i64 x) (heap_setCell_same w2 w.heap.size 0 _ _ (.int .i64 u) k2))))
  have B2 := Lib.hid (B1.out.trans (ho2.1.mono (by omega)))
  clear ho2 k2 CD K1 HC1
  go_wp2
  refine bodyPost_ret (results_cell_row rfl _ _ w.heap.size _ _ (0, 0) _ rfl HK.out Try.underlying25 rfl (by kernel_rfl)) rfl ?_
  exact ⟨u, x, y, d, rfl, (((B2.out.setCell (Nat.le_refl _) _).setCell (Nat.le_refl _) _).setCell (Nat.le_refl _) _).setCell (Nat.le_refl _) _⟩

theorem DrawSkipAccount_any (lo hi : Nat) (A : Option Addr) (k c : Nat) (b : Nat → Int) (w : World) (hk : k ≤ 1048576)
    (hb : ∀ j, 0 ≤ b j ∧ b j ≤ 255) (h : Sl w lo hi A k (fun j => .int .u8 (b j))) :
    Calls Try.prog 12 #[.slice A k c] w (Acc2 w) := by
  have H := Lib.hid h
  have HBY := Lib.hid hb
  have B0 := Lib.hid (below_new w (.cells #[.int .i64 0, .int .i64 0, .int .i64 0, .int .i64 0] 25))
  have K0 := Lib.hid (heap_alloc_new w (.cells #[.int .i64 0, .int .i64 0, .int .i64 0, .int .i64 0] 25))
  clear h hb
  go_enter Try.func12, Try.ntmps12
  go_wp2_with fail
  have C1 := l1Source_any A k c (w.alloc (.cells #[.int .i64 0, .int .i64 0, .int .i64 0, .int .i64 0] 25))
  rw [World.size_alloc] at C1
  refine C1.mono ?_
  rintro e w1 ⟨rfl, hs1, hb1⟩
  have hz1 : w.heap.size + 1 < w1.heap.size := hs1.lt
  have HC1 : Hid (Sl w1 lo (min hi w.heap.size) A k (fun j => .int .u8 (b j))) := H.out.lt.below (B0.out.trans (hb1.mono (by omega))) (by omega)
  have K1 := Lib.hid ((hb1.block w.heap.size (by omega)).trans K0.out)
  have B1 := Lib.hid (B0.out.trans (hb1.mono (by omega)))
  have CD := Lib.hid (l2Draw_any lo (min hi w.heap.size) (w.heap.size + 1) A k c 0 b w1 hk (by omega) HBY.out HC1.out (by omega) hs1)
  clear C1 hs1 hb1
  go_wp2_with fail
  refine CD.out.mono ?_
  rintro e w2 ⟨u, x, y, d, rfl, _, ho2⟩
  have hz2 : w1.heap.size ≤ w2.heap.size := ho2.1.size
  have k2 := (ho2.1.block w.heap.size (by omega)).trans K1.out
  have q0 := cell_of_row w2 _ 0 _ _ _ k2
  have q1 := cell_of_row w2 _ 1 _ _ _ k2
  have q2 := cell_of_row w2 _ 2 _ _ _ k2
  have q3 := cell_of_row w2 _ 3 _ _ _ k2
  have f0 := frozen_of_row w2 _ 0 _ _ k2
  have f1 := frozen_of_row w2 _ 1 _ _ k2
  have f2 := frozen_of_row w2 _ 2 _ _ k2
  have f3 := frozen_of_row w2 _ 3 _ _ k2
  simp at q0 q1 q2 q3
  have HK := Lib.hid (heap_setCell_same _ w.heap.size 3 _ _ (.int .i64 d) (heap_setCell_same _ w.heap.size 2 _ _ (.int .i64 y) (heap_setCell_same _ w.heap.size 1 _ _ (.int .i64 x) (heap_setCell_same w2 w.heap.size 0 _ _ (.int .i64 u) k2))))
  have B2 := Lib.hid (B1.out.trans (ho2.1.mono (by omega)))
  clear ho2 k2 CD K1 HC1
  go_wp2
  refine bodyPost_ret (results_cell_row rfl _ _ w.heap.size _ _ (0, 0) _ rfl HK.out Try.underlying25 rfl (by kernel_rfl)) rfl ?_
  exact ⟨u, x, y, d, rfl, (((B2.out.setCell (Nat.le_refl _) _).setCell (Nat.le_refl _) _).setCell (Nat.le_refl _) _).setCell (Nat.le_refl _) _⟩

theorem DrawGiveTick_any (lo hi : Nat) (A : Option Addr) (k c : Nat) (b : Nat → Int) (w : World) (hk : k ≤ 1048576)
    (hb : ∀ j, 0 ≤ b j ∧ b j ≤ 255) (h : Sl w lo hi A k (fun j => .int .u8 (b j))) :
    Calls Try.prog 16 #[.slice A k c] w (Acc2 w) := by
  have H := Lib.hid h
  have HBY := Lib.hid hb
  have B0 := Lib.hid (below_new w (.cells #[.int .i64 0, .int .i64 0, .int .i64 0, .int .i64 0] 25))
  have K0 := Lib.hid (heap_alloc_new w (.cells #[.int .i64 0, .int .i64 0, .int .i64 0, .int .i64 0] 25))
  clear h hb
  go_enter Try.func16, Try.ntmps16
  go_wp2_with fail
  have C1 := l1Source_any A k c (w.alloc (.cells #[.int .i64 0, .int .i64 0, .int .i64 0, .int .i64 0] 25))
  rw [World.size_alloc] at C1
  refine C1.mono ?_
  rintro e w1 ⟨rfl, hs1, hb1⟩
  have hz1 : w.heap.size + 1 < w1.heap.size := hs1.lt
  have HC1 : Hid (Sl w1 lo (min hi w.heap.size) A k (fun j => .int .u8 (b j))) := H.out.lt.below (B0.out.trans (hb1.mono (by omega))) (by omega)
  have K1 := Lib.hid ((hb1.block w.heap.size (by omega)).trans K0.out)
  have B1 := Lib.hid (B0.out.trans (hb1.mono (by omega)))
  have CD := Lib.hid (l2Draw_any lo (min hi w.heap.size) (w.heap.size + 1) A k c 0 b w1 hk (by omega) HBY.out HC1.out (by omega) hs1)
  clear C1 hs1 hb1
  go_wp2_with fail
  refine CD.out.mono ?_
  rintro e w2 ⟨u, x, y, d, rfl, _, ho2⟩
  have hz2 : w1.heap.size ≤ w2.heap.size := ho2.1.size
  have k2 := (ho2.1.block w.heap.size (by omega)).trans K1.out
  have q0 := cell_of_row w2 _ 0 _ _ _ k2
  have q1 := cell_of_row w2 _ 1 _ _ _ k2
  have q2 := cell_of_row w2 _ 2 _ _ _ k2
  have q3 := cell_of_row w2 _ 3 _ _ _ k2
  have f0 := frozen_of_row w2 _ 0 _ _ k2
  have f1 := frozen_of_row w2 _ 1 _ _ k2
  have f2 := frozen_of_row w2 _ 2 _ _ k2
  have f3 := frozen_of_row w2 _ 3 _ _ k2
  simp at q0 q1 q2 q3
  have HK := Lib.hid (heap_setCell_same _ w.heap.size 3 _ _ (.int .i64 d) (heap_setCell_same _ w.heap.size 2 _ _ (.int .i64 y) (heap_setCell_same _ w.heap.size 1 _ _ (.int .i64 x) (heap_setCell_same w2 w.heap.size 0 _ _ (.int .i64 u) k2))))
  have B2 := Lib.hid (B1.out.trans (ho2.1.mono (by omega)))
  clear ho2 k2 CD K1 HC1
  go_wp2
  refine bodyPost_ret (results_cell_row rfl _ _ w.heap.size _ _ (0, 0) _ rfl HK.out Try.underlying25 rfl (by kernel_rfl)) rfl ?_
  exact ⟨u, x, y, d, rfl, (((B2.out.setCell (Nat.le_refl _) _).setCell (Nat.le_refl _) _).setCell (Nat.le_refl _) _).setCell (Nat.le_refl _) _⟩

theorem DrawUseTick_any (lo hi : Nat) (A : Option Addr) (k c : Nat) (b : Nat → Int) (w : World) (hk : k ≤ 1048576)
    (hb : ∀ j, 0 ≤ b j ∧ b j ≤ 255) (h : Sl w lo hi A k (fun j => .int .u8 (b j))) :
    Calls Try.prog 14 #[.slice A k c] w (AccB2 w) := by
  have H := Lib.hid h
  have HBY := Lib.hid hb
  have B0 := Lib.hid (below_new w (.cells #[.int .i64 0, .int .i64 0, .int .i64 0, .int .i64 0] 25))
  have K0 := Lib.hid (heap_alloc_new w (.cells #[.int .i64 0, .int .i64 0, .int .i64 0, .int .i64 0] 25))
  clear h hb
  go_enter Try.func14, Try.ntmps14
  go_wp2_with fail
  have C1 := l1Source_any A k c (w.alloc (.cells #[.int .i64 0, .int .i64 0, .int .i64 0, .int .i64 0] 25))
  rw [World.size_alloc] at C1
  refine C1.mono ?_
  rintro e w1 ⟨rfl, hs1, hb1⟩
  have hz1 : w.heap.size + 1 < w1.heap.size := hs1.lt
  have HC1 : Hid (Sl w1 lo (min hi w.heap.size) A k (fun j => .int .u8 (b j))) := H.out.lt.below (B0.out.trans (hb1.mono (by omega))) (by omega)
  have K1 := Lib.hid ((hb1.block w.heap.size (by omega)).trans K0.out)
  have B1 := Lib.hid (B0.out.trans (hb1.mono (by omega)))
  have CD := Lib.hid (l2Draw_any lo (min hi w.heap.size) (w.heap.size + 1) A k c 0 b w1 hk (by omega) HBY.out HC1.out (by omega) hs1)
  clear C1 hs1 hb1
  go_wp2_with fail
  refine CD.out.mono ?_
  rintro e w2 ⟨u, x, y, d, rfl, hs2, ho2⟩
  have hz2 : w1.heap.size ≤ w2.heap.size := ho2.1.size
  have HC2 := Lib.hid (HC1.out.only ho2 (by omega) (.inl (by omega)))
  have K2 := Lib.hid ((ho2.1.block w.heap.size (by omega)).trans K1.out)
  have B2 := Lib.hid (B1.out.trans (ho2.1.mono (by omega)))
  have CC := Lib.hid (l1Chance_any lo (min hi w.heap.size) (w.heap.size + 1) A k c (0 + 4) 2 b w2 (by omega) hk (by omega) HBY.out HC2.out (by omega) hs2)
  clear ho2 CD K1 HC1 hs2
  go_wp2_with fail
  refine CC.out.mono ?_
  rintro e w3 ⟨z, rfl, _, ho3⟩
  have k2 := (ho3.1.block w.heap.size (by omega)).trans K2.out
  have q0 := cell_of_row w3 _ 0 _ _ _ k2
  have q1 := cell_of_row w3 _ 1 _ _ _ k2
  have q2 := cell_of_row w3 _ 2 _ _ _ k2
  have q3 := cell_of_row w3 _ 3 _ _ _ k2
  have f0 := frozen_of_row w3 _ 0 _ _ k2
  have f1 := frozen_of_row w3 _ 1 _ _ k2
  have f2 := frozen_of_row w3 _ 2 _ _ k2
  have f3 := frozen_of_row w3 _ 3 _ _ k2
  simp at q0 q1 q2 q3
  have hk := heap_setCell_same _ w.heap.size 3 _ _ (.int .i64 d) (heap_setCell_same _ w.heap.size 2 _ _ (.int .i64 y) (heap_setCell_same _ w.heap.size 1 _ _ (.int .i64 x) (heap_setCell_same w3 w.heap.size 0 _ _ (.int .i64 u) k2)))
  have g0 := cell_of_row _ _ 0 _ _ _ hk
  have g1 := cell_of_row _ _ 1 _ _ _ hk
  have g2 := cell_of_row _ _ 2 _ _ _ hk
  have g3 := cell_of_row _ _ 3 _ _ _ hk
  simp at g0 g1 g2 g3
  have B3 := Lib.hid (B2.out.trans (ho3.1.mono (by omega)))
  clear ho3 k2 CC K2 hk
  go_wp2
  refine bodyPost_ret (v := .tuple #[.agg #[.int .i64 u, .int .i64 x, .int .i64 y, .int .i64 d], .bool z]) (by simp [results, Try.results14, go_sem, g0, g1, g2, g3]) rfl ?_
  exact ⟨u, x, y, d, z, rfl, (((B3.out.setCell (Nat.le_refl _) _).setCell (Nat.le_refl _) _).setCell (Nat.le_refl _) _).setCell (Nat.le_refl _) _⟩

end Go.Proofs.Ytmbgelhkodjilaa
