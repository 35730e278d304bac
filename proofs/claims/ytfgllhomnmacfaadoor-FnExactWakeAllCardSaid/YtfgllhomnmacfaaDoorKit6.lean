/-
  The laws' helpers on locks and on answers of chapter 6: size, copy, compare, mark, look again. No conditions beyond that the lists can be read.
-/
import Derived.Test.YtfgllhomnmacfaaDoorInts
import Derived.Test.YtfgllhomnmacfaaDoorBase3
namespace Go.Proofs.YtfgllhomnmacfaaDoor
open Go.RowKit
set_option maxRecDepth 100000

theorem sz64_any (A : Option Addr) (n c : Nat) (left : Int) (w : World) (h0 : -9223372036854775808 ≤ left - n) (h1 : left ≤ 9223372036854775807) :
    Calls Tryd.prog 70 #[.slice A n c, .int .i64 left] w fun e w' => e = .returned (.int .i64 (if left - n < 0 then -1 else left - n)) ∧ w = w' := by
  have wn : IntKind.i64.wrap (left - (n : Int)) = left - (n : Int) := IntWalk.i64_in _ (by omega)
  by_cases h : left - (n : Int) < 0
  · go_enter Tryd.func70, Tryd.ntmps70
    go_wp2
    go_ret
    exact ⟨ret_i64 (by first | rfl | exact (if_pos h).symm | simp [h]), rfl⟩
  · go_enter Tryd.func70, Tryd.ntmps70
    go_wp2
    go_ret
    exact ⟨ret_i64 (by first | rfl | exact (if_neg h).symm | simp [h]), rfl⟩
theorem szLock_any (A : Option Addr) (n c : Nat) (o left : Int) (w : World) (hn : n ≤ 9223372036854775807) (hl0 : 0 ≤ left) (hl : left ≤ 1048576) :
    Calls Tryd.prog 35 #[.agg #[.int .i64 o, .slice A n c], .int .i64 left] w fun e w' => e = .returned (.int .i64 (if left - n < 0 then -1 else left - n)) ∧ Below w.heap.size w w' := by
  have B1 : Hid (∀ o, Below w.heap.size w (w.alloc o)) := fun o => (Below.refl _ _).alloc (Nat.le_refl _) o
  have SZ : Hid (∀ W, Calls Tryd.prog 70 #[.slice A n c, .int .i64 left] W fun e w' => e = .returned (.int .i64 (if left - n < 0 then -1 else left - n)) ∧ W = w') := fun W => sz64_any A n c left W (by omega) (by omega)
  clear hn hl0 hl
  by_cases h : left - (n : Int) < 0
  · rw [if_pos h] at SZ ⊢
    clear h
    go_enter Tryd.func35, Tryd.ntmps35
    go_wp2_with fail
    refine (SZ.out _).mono ?_
    rintro e w' ⟨rfl, rfl⟩
    go_wp2
    go_ret
    exact ⟨rfl, B1.out _⟩
  · rw [if_neg h] at SZ ⊢
    obtain ⟨q, hq⟩ : ∃ q, q = left - (n : Int) := ⟨_, rfl⟩
    rw [← hq] at SZ h ⊢
    clear hq
    go_enter Tryd.func35, Tryd.ntmps35
    go_wp2_with fail
    refine (SZ.out _).mono ?_
    rintro e w' ⟨rfl, rfl⟩
    go_wp2
    go_ret
    exact ⟨rfl, B1.out _⟩

set_option maxHeartbeats 1000000 in
/-- toLock: the same lock, its queue in a row of its own -/
theorem toLock_any (lo hi : Nat) (A : Option Addr) (n c : Nat) (b : Int) (x : Nat → Int) (w : World) (hn : n * 8 ≤ 140737488351232) (h : Sl w lo hi A n (fun k => .int .i64 (x k))) :
    Calls Tryd.prog 36 #[.agg #[.int .i64 b, .slice A n c]] w fun e w' => ∃ u, e = .returned (.agg #[.int .i64 b, .slice (some ⟨u, 0, none⟩) n n]) ∧ (w.heap.size < u ∧ u < w'.heap.size) ∧ Row w' u 0 2 n (fun k => .int .i64 (x k)) ∧ Below w.heap.size w w' := by
  have R := Lib.hid h.lt
  clear h
  go_enter Tryd.func36, Tryd.ntmps36
  go_wp2_with fail
  obtain ⟨W3, hW3⟩ : ∃ W3, W3 = ((w.alloc (.cells #[.int .i64 b, .slice A n c] 44)).alloc (.cells #[.int .i64 0, .slice none 0 0] 26)).alloc (.cells #[.int .i64 b, .slice none 0 0] 26) := ⟨_, rfl⟩
  have B3 : Below w.heap.size w W3 := by rw [hW3]; exact ((below_new w _).alloc (by simp) _).alloc (by simp; omega) _
  have Z3 : W3.heap.size = w.heap.size + 3 := by rw [hW3]; simp
  have X1 : W3.heap[w.heap.size + 1]? = some (.cells #[.int .i64 0, .slice none 0 0] 26 (0, 0)) := by
    rw [hW3]; exact (Below.heap_alloc _ _ _ (by simp)).trans (heap_alloc2_new w _ _)
  have X2 : W3.heap[w.heap.size + 1 + 1]? = some (.cells #[.int .i64 b, .slice none 0 0] 26 (0, 0)) := by
    have := heap_alloc_new ((w.alloc (.cells #[.int .i64 b, .slice A n c] 44)).alloc (.cells #[.int .i64 0, .slice none 0 0] 26)) (.cells #[.int .i64 b, .slice none 0 0] 26)
    rw [hW3]
    simpa only [World.size_alloc] using this
  rw [← hW3]
  clear hW3
  refine (toInt64S_any lo (min hi w.heap.size) A n c x W3 hn (R.out.below B3 (Nat.min_le_right _ _)) (by omega)).mono ?_
  rintro e w4 ⟨rfl, hrow, hb⟩
  have Y1 := (hb.block (w.heap.size + 1) (by omega)).trans X1
  have Y2 := (hb.block (w.heap.size + 1 + 1) (by omega)).trans X2
  have HR := Lib.hid hrow
  have B4 := Lib.hid (B3.trans (hb.mono (by omega)))
  have ZS := Lib.hid (show W3.heap.size = w.heap.size + 3 from Z3)
  have Z4 := Lib.hid (show w.heap.size + 3 < w4.heap.size by have := hrow.lt; omega)
  obtain ⟨u, hu⟩ : ∃ u, u = W3.heap.size := ⟨_, rfl⟩
  rw [← hu] at HR ZS ⊢
  have HY1 := Lib.hid Y1; have HY2 := Lib.hid Y2
  have c0 := cell_of_row w4 _ 0 _ _ _ Y2; have c1 := cell_of_row w4 _ 1 _ _ _ Y2; have g0 := frozen_of_row w4 _ 0 _ _ Y2; have g1 := frozen_of_row w4 _ 1 _ _ Y2
  have d0 := cell_of_row w4 _ 0 _ _ _ Y1; have d1 := cell_of_row w4 _ 1 _ _ _ Y1; have k0 := frozen_of_row w4 _ 0 _ _ Y1; have k1 := frozen_of_row w4 _ 1 _ _ Y1
  simp at c0 c1 d0 d1
  clear hrow hb X1 X2 Y1 Y2 B3 Z3 hu R
  go_wp2
  have Y3 : (w4.setCell ⟨w.heap.size + 1 + 1, 1, none⟩ (.slice (some ⟨u, 0, none⟩) n n)).heap[w.heap.size + 1]? = some (.cells #[.int .i64 0, .slice none 0 0] 26 (0, 0)) := (Below.heap_setCell _ _ _ _ (by simp)).trans HY1.out
  refine bodyPost_ret (results_cell_row rfl _ _ _ _ _ (0, 0) _ rfl (heap_setCell_same _ _ 1 _ _ _ (heap_setCell_same _ _ 0 _ _ _ Y3)) Tryd.underlying26 rfl (by kernel_rfl)) rfl ?_
  refine ⟨u, rfl, ⟨by have := ZS.out; omega, by have := Z4.out; have := ZS.out; simp; omega⟩, ?_, ?_⟩
  · exact ((HR.out.far (p := ⟨w.heap.size + 1 + 1, 1, none⟩) (by have := ZS.out; simp; omega) _).far (p := ⟨w.heap.size + 1, 0, none⟩) (by have := ZS.out; simp; omega) _).far (p := ⟨w.heap.size + 1, 1, none⟩) (by have := ZS.out; simp; omega) _
  · exact ((B4.out.setCell (p := ⟨w.heap.size + 1 + 1, 1, none⟩) (by simp; omega) _).setCell (p := ⟨w.heap.size + 1, 0, none⟩) (by simp) _).setCell (p := ⟨w.heap.size + 1, 1, none⟩) (by simp) _

theorem eqLock_same (lo hi lo' hi' : Nat) (A A' : Option Addr) (n c c' : Nat) (b : Int) (x : Nat → Int) (w : World) (hn : n * 8 ≤ 140737488351232)
    (h : Sl w lo hi A n (fun k => .int .i64 (x k))) (h' : Sl w lo' hi' A' n (fun k => .int .i64 (x k))) :
    Calls Tryd.prog 37 #[.agg #[.int .i64 b, .slice A n c], .agg #[.int .i64 b, .slice A' n c']] w fun e w' => e = .returned (.bool true) ∧ Below w.heap.size w w' := by
  have H := Lib.hid h
  have H' := Lib.hid h'
  clear h h'
  have B2 : ∀ o o', Below w.heap.size w ((w.alloc o).alloc o') := fun o o' => ((Below.refl _ _).alloc (Nat.le_refl _) o).alloc (by simp) o'
  have HB2 := Lib.hid B2
  clear B2
  go_enter Tryd.func37, Tryd.ntmps37
  go_wp2_with fail
  refine (eqInt64S_same lo (min hi w.heap.size) lo' (min hi' w.heap.size) A A' n c c' x _ (by omega) (H.out.lt.below (HB2.out _ _) (by omega)) (H'.out.lt.below (HB2.out _ _) (by omega))).mono ?_
  rintro e w' ⟨rfl, hb⟩
  have HB := Lib.hid ((HB2.out _ _).trans (hb.mono (by simp; omega)))
  clear hb
  go_wp2
  go_ret
  exact ⟨rfl, HB.out⟩

theorem Kept.of_only6 {g : Nat} {w w' : World} (h : Only g (g + 1) w w') : Kept [g] w w' :=
  ⟨h.1.mono (Nat.zero_le _), fun b hb hn => by
    simp at hn
    rcases Nat.lt_or_ge b g with h1 | h1
    · exact h.1.block b h1
    · exact h.2 b (by omega) hb⟩
theorem Kept.pre_below6 {gs : List Nat} {a b c : World} (h : Below a.heap.size a b) (k : Kept gs b c) : Kept gs a c := (Kept.of_below h gs).trans k
theorem markLock_any (g : Nat) (A : Option Addr) (n c m : Nat) (b : Int) (x : Nat → Int) (w : World) (hn : n ≤ 2000000) (hm : m ≤ 1000000000) (h : Mine w g (g + 1) 2 A n (fun k => .int .i64 (x k))) (hg : g < w.heap.size) :
    Calls Tryd.prog 41 #[.agg #[.int .i64 b, .slice A n c], .int .i64 m] w fun e w' => e = .returned (.int .i64 ((m + n : Nat) : Int)) ∧ Mine w' g (g + 1) 2 A n (fun k => .int .i64 ((m + k : Nat) : Int)) ∧ Kept [g] w w' := by
  have H := Lib.hid h
  have B1 : Hid (∀ o, Below w.heap.size w (w.alloc o)) := fun o => (Below.refl _ _).alloc (Nat.le_refl _) o
  clear h
  go_enter Tryd.func41, Tryd.ntmps41
  go_wp2_with fail
  refine (markInt64S_any g (g + 1) A n c _ m _ (by omega) (by omega) (fun k _ => ⟨_, rfl⟩) (H.out.below (B1.out _) hg)).mono ?_
  rintro e w' ⟨rfl, hmine, hb⟩
  have HB := Lib.hid (Kept.pre_below6 (B1.out _) (Kept.of_only6 hb))
  have HM := Lib.hid hmine
  clear hb hmine
  obtain ⟨tot, ht⟩ : ∃ tot : Nat, tot = m + n := ⟨_, rfl⟩
  rw [← ht]
  have HT := Lib.hid ht
  clear ht
  go_wp2
  go_ret
  exact ⟨by rw [← HT.out]; rfl, HM.out, HB.out⟩

theorem heldLock_any (lo hi : Nat) (A : Option Addr) (n c m : Nat) (b : Int) (w : World) (hn : n ≤ 2000000) (hm : m ≤ 1000000000) (h : Sl w lo hi A n (fun k => .int .i64 ((m + k : Nat) : Int))) :
    Calls Tryd.prog 71 #[.agg #[.int .i64 b, .slice A n c], .int .i64 m] w fun e w' => e = .returned (.int .i64 ((m + n : Nat) : Int)) ∧ Below w.heap.size w w' := by
  have H := Lib.hid h.lt
  have B1 : Hid (∀ o, Below w.heap.size w (w.alloc o)) := fun o => (Below.refl _ _).alloc (Nat.le_refl _) o
  clear h
  go_enter Tryd.func71, Tryd.ntmps71
  go_wp2_with fail
  refine (heldInt64S_any lo (min hi w.heap.size) A n c m _ (by omega) (by omega) (H.out.below (B1.out _) (by omega))).mono ?_
  rintro e w' ⟨rfl, hb⟩
  have HB := Lib.hid ((B1.out _).trans (hb.mono (by simp)))
  clear hb
  obtain ⟨tot, ht⟩ : ∃ tot : Nat, tot = m + n := ⟨_, rfl⟩
  rw [← ht]
  have t0 : ¬ ((tot : Nat) : Int) < 0 := by omega
  have HT := Lib.hid ht
  clear ht
  go_wp2
  go_ret
  exact ⟨by rw [← HT.out]; rfl, HB.out⟩

set_option maxHeartbeats 1000000 in
theorem eqLR_own (A A' B B' : Option Addr) (n m c c' d d' : Nat) (q i o : Int) (t : Bool) (xs ys : List Int) (w : World) (hn : n ≤ 2000000) (hm : m ≤ 2000000)
    (h : Sl w 0 w.heap.size A n (fun k => .int .i64 (gi xs k))) (h' : Sl w 0 w.heap.size A' n (fun k => .int .i64 (gi xs k)))
    (k : Sl w 0 w.heap.size B m (fun k => .int .i64 (gi ys k))) (k' : Sl w 0 w.heap.size B' m (fun k => .int .i64 (gi ys k))) :
    Calls Tryd.prog 40 #[.agg #[.int .i64 q, .bool t, .int .i64 i, .int .i64 o, .slice A n c, .slice B m d], .agg #[.int .i64 q, .bool t, .int .i64 i, .int .i64 o, .slice A' n c', .slice B' m d']] w fun e w' => e = .returned (.bool true) ∧ Below w.heap.size w w' := by
  have H := Lib.hid h
  have H' := Lib.hid h'
  have K := Lib.hid k
  have K' := Lib.hid k'
  clear h h' k k'
  obtain ⟨w2, hw2⟩ : ∃ w2, w2 = (w.alloc (.cells #[.int .i64 q, .bool t, .int .i64 i, .int .i64 o, .slice A n c, .slice B m d] 30)).alloc (.cells #[.int .i64 q, .bool t, .int .i64 i, .int .i64 o, .slice A' n c', .slice B' m d'] 30) := ⟨_, rfl⟩
  have B2 : Hid (Below w.heap.size w w2) := by rw [hw2]; exact (below_new w _).alloc (by simp) _
  have X0 : Hid (w2.heap[w.heap.size]? = some (.cells #[.int .i64 q, .bool t, .int .i64 i, .int .i64 o, .slice A n c, .slice B m d] 30 (0, 0))) := by
    show _ = _; rw [hw2]; exact (Below.heap_alloc _ _ _ (by simp)).trans (heap_alloc_new w _)
  have X1 : Hid (w2.heap[w.heap.size + 1]? = some (.cells #[.int .i64 q, .bool t, .int .i64 i, .int .i64 o, .slice A' n c', .slice B' m d'] 30 (0, 0))) := by
    show _ = _; rw [hw2]; exact heap_alloc2_new w _ _
  have Z2 : Hid (w2.heap.size = w.heap.size + 2) := by show _ = _; rw [hw2]; simp
  have tt : (t != t) = false := by simp
  go_enter Tryd.func40, Tryd.ntmps40
  go_upto_region 1 with (fail)
  rw [← hw2]
  clear hw2
  have a0 := cell_of_row w2 _ 0 _ _ _ X0.out; have a1 := cell_of_row w2 _ 1 _ _ _ X0.out; have a2 := cell_of_row w2 _ 2 _ _ _ X0.out; have a3 := cell_of_row w2 _ 3 _ _ _ X0.out; have a4 := cell_of_row w2 _ 4 _ _ _ X0.out; have a5 := cell_of_row w2 _ 5 _ _ _ X0.out
  have e0 := cell_of_row w2 _ 0 _ _ _ X1.out; have e1 := cell_of_row w2 _ 1 _ _ _ X1.out; have e2 := cell_of_row w2 _ 2 _ _ _ X1.out; have e3 := cell_of_row w2 _ 3 _ _ _ X1.out; have e4 := cell_of_row w2 _ 4 _ _ _ X1.out; have e5 := cell_of_row w2 _ 5 _ _ _ X1.out
  simp at a0 a1 a2 a3 a4 a5 e0 e1 e2 e3 e4 e5
  go_wp2_with fail
  refine (eqLock_same 0 w.heap.size 0 w.heap.size A A' n c c' o (gi xs) _ (by omega) (H.out.below B2.out (Nat.le_refl _)) (H'.out.below B2.out (Nat.le_refl _))).mono ?_
  rintro e w3 ⟨rfl, hb⟩
  have B3 := Lib.hid (B2.out.trans (hb.mono B2.out.size))
  have f0 := (World.cell?_of_block (hb.block w.heap.size (by have := Z2.out; omega))).trans a5
  have f1 := (World.cell?_of_block (hb.block (w.heap.size + 1) (by have := Z2.out; omega))).trans e5
  clear a0 a1 a2 a3 a4 a5 e0 e1 e2 e3 e4 e5 hb
  go_wp2_with fail
  refine (eqInt64S_same 0 w.heap.size 0 w.heap.size B B' m d d' (gi ys) _ (by omega) (K.out.below B3.out (Nat.le_refl _)) (K'.out.below B3.out (Nat.le_refl _))).mono ?_
  rintro e w4 ⟨rfl, hb⟩
  have B4 := Lib.hid (B3.out.trans (hb.mono B3.out.size))
  clear hb
  go_wp2
  go_ret
  exact ⟨rfl, B4.out⟩
set_option maxHeartbeats 1000000 in
/-- mark: the first row g, the second row g2 -/
theorem markLR_own (g g2 : Nat) (A B : Option Addr) (n m c d : Nat) (q i o : Int) (t : Bool) (xs ys : List Int) (w : World) (hn : n ≤ 2000000) (hm : m ≤ 2000000)
    (h : Mine w g (g + 1) 2 A n (fun k => .int .i64 (gi xs k))) (hg : g < w.heap.size) (k : Mine w g2 (g2 + 1) 2 B m (fun k => .int .i64 (gi ys k))) (hg2 : g2 < w.heap.size) (hne : g ≠ g2) :
    Calls Tryd.prog 42 #[.agg #[.int .i64 q, .bool t, .int .i64 i, .int .i64 o, .slice A n c, .slice B m d], .int .i64 1] w fun e w' => e = .returned (.int .i64 ((1 + n + m : Nat) : Int)) ∧ Mine w' g (g + 1) 2 A n (fun k => .int .i64 ((1 + k : Nat) : Int)) ∧ Mine w' g2 (g2 + 1) 2 B m (fun k => .int .i64 ((1 + n + k : Nat) : Int)) ∧ Kept [g, g2] w w' := by
  have H := Lib.hid h
  have K := Lib.hid k
  clear h k
  obtain ⟨w1, hw1⟩ : ∃ w1, w1 = w.alloc (.cells #[.int .i64 q, .bool t, .int .i64 i, .int .i64 o, .slice A n c, .slice B m d] 30) := ⟨_, rfl⟩
  have B1 : Hid (Below w.heap.size w w1) := by rw [hw1]; exact below_new w _
  have Z1 : Hid (w1.heap.size = w.heap.size + 1) := by show _ = _; rw [hw1]; simp
  have X0 : Hid (w1.heap[w.heap.size]? = some (.cells #[.int .i64 q, .bool t, .int .i64 i, .int .i64 o, .slice A n c, .slice B m d] 30 (0, 0))) := by show _ = _; rw [hw1]; exact heap_alloc_new w _
  go_enter Tryd.func42, Tryd.ntmps42
  go_upto_region 1 with (fail)
  rw [← hw1]
  clear hw1
  have a3 := cell_of_row w1 _ 3 _ _ _ X0.out; have a4 := cell_of_row w1 _ 4 _ _ _ X0.out; have a5 := cell_of_row w1 _ 5 _ _ _ X0.out
  simp at a3 a4 a5
  go_wp2_with fail
  refine (markLock_any g A n c 1 o (gi xs) _ hn (by omega) (H.out.below B1.out hg) (by have := Z1.out; omega)).mono ?_
  rintro e w2 ⟨rfl, hmine, hb⟩
  have HB := Lib.hid (Kept.pre_below6 B1.out hb)
  have HM := Lib.hid hmine
  have HK : Hid (Mine w2 g2 (g2 + 1) 2 B m (fun k => .int .i64 (gi ys k))) := (K.out.below B1.out hg2).kept hb (by simp; omega)
  have f5 := (World.cell?_of_block (hb.2 w.heap.size (by have := Z1.out; omega) (by simp; omega))).trans a5
  have Z2 : Hid (w1.heap.size ≤ w2.heap.size) := hb.1.size
  clear hb hmine a3 a4 a5
  obtain ⟨tot, ht⟩ : ∃ tot : Nat, tot = 1 + n := ⟨_, rfl⟩
  rw [← ht]
  have HT := Lib.hid ht
  clear ht
  go_wp2_with fail
  refine (markInt64S_any g2 (g2 + 1) B m d _ tot _ (by omega) (by have := HT.out; omega) (fun k _ => ⟨_, rfl⟩) HK.out).mono ?_
  rintro e w3 ⟨rfl, hmine, hb⟩
  have HB3 := Lib.hid ((HB.out.mono (gs' := [g, g2]) (fun b hb _ => by simp at hb; simp [hb])).trans' (Kept.of_only6 hb) (fun x hx _ => by simp at hx; simp [hx]))
  have HM2 := Lib.hid hmine
  have HM3 : Hid (Mine w3 g (g + 1) 2 A n (fun k => .int .i64 ((1 + k : Nat) : Int))) := HM.out.kept (Kept.of_only6 hb) (by simpa using hne)
  clear hb hmine
  obtain ⟨tot2, ht2⟩ : ∃ tot2 : Nat, tot2 = tot + m := ⟨_, rfl⟩
  rw [← ht2]
  have HT2 := Lib.hid ht2
  clear ht2
  go_wp2
  go_ret
  have hh : tot = 1 + n := HT.out
  subst hh
  exact ⟨by rw [HT2.out]; rfl, HM3.out, HM2.out, HB3.out⟩
set_option maxHeartbeats 1000000 in
theorem heldLR_own (A B : Option Addr) (n m c d : Nat) (q i o : Int) (t : Bool) (w : World) (hn : n ≤ 2000000) (hm : m ≤ 2000000)
    (h : Sl w 0 w.heap.size A n (fun k => .int .i64 ((1 + k : Nat) : Int))) (k : Sl w 0 w.heap.size B m (fun k => .int .i64 ((1 + n + k : Nat) : Int))) :
    Calls Tryd.prog 43 #[.agg #[.int .i64 q, .bool t, .int .i64 i, .int .i64 o, .slice A n c, .slice B m d], .int .i64 1] w fun e w' => e = .returned (.int .i64 ((1 + n + m : Nat) : Int)) ∧ Below w.heap.size w w' := by
  have H := Lib.hid h
  have K := Lib.hid k
  clear h k
  obtain ⟨w1, hw1⟩ : ∃ w1, w1 = w.alloc (.cells #[.int .i64 q, .bool t, .int .i64 i, .int .i64 o, .slice A n c, .slice B m d] 30) := ⟨_, rfl⟩
  have B1 : Hid (Below w.heap.size w w1) := by rw [hw1]; exact below_new w _
  have Z1 : Hid (w1.heap.size = w.heap.size + 1) := by show _ = _; rw [hw1]; simp
  have X0 : Hid (w1.heap[w.heap.size]? = some (.cells #[.int .i64 q, .bool t, .int .i64 i, .int .i64 o, .slice A n c, .slice B m d] 30 (0, 0))) := by show _ = _; rw [hw1]; exact heap_alloc_new w _
  go_enter Tryd.func43, Tryd.ntmps43
  go_upto_region 1 with (fail)
  rw [← hw1]
  clear hw1
  have a3 := cell_of_row w1 _ 3 _ _ _ X0.out; have a4 := cell_of_row w1 _ 4 _ _ _ X0.out; have a5 := cell_of_row w1 _ 5 _ _ _ X0.out
  simp at a3 a4 a5
  go_wp2_with fail
  refine (heldLock_any 0 w.heap.size A n c 1 o _ hn (by omega) (H.out.below B1.out (Nat.le_refl _))).mono ?_
  rintro e w2 ⟨rfl, hb⟩
  have HB := Lib.hid (B1.out.trans (hb.mono B1.out.size))
  have f5 := (World.cell?_of_block (hb.block w.heap.size (by have := Z1.out; omega))).trans a5
  clear hb a3 a4 a5
  obtain ⟨tot, ht⟩ : ∃ tot : Nat, tot = 1 + n := ⟨_, rfl⟩
  have K2 : Hid (Sl w2 0 w.heap.size B m (fun k => .int .i64 ((tot + k : Nat) : Int))) := by rw [ht]; exact K.out.below HB.out (Nat.le_refl _)
  rw [← ht]
  have t0 : ¬ ((tot : Nat) : Int) < 0 := by omega
  have HT := Lib.hid ht
  clear ht
  go_wp2_with fail
  refine (heldInt64S_any 0 w.heap.size B m d tot _ (by omega) (by have := HT.out; omega) K2.out).mono ?_
  rintro e w3 ⟨rfl, hb⟩
  have HB3 := Lib.hid (HB.out.trans (hb.mono HB.out.size))
  clear hb
  obtain ⟨tot2, ht2⟩ : ∃ tot2 : Nat, tot2 = tot + m := ⟨_, rfl⟩
  rw [← ht2]
  have t2 : ¬ ((tot2 : Nat) : Int) < 0 := by omega
  have HT2 := Lib.hid ht2
  clear ht2
  go_wp2
  go_ret
  have hh : tot = 1 + n := HT.out
  subst hh
  exact ⟨by rw [HT2.out]; rfl, HB3.out⟩

end Go.Proofs.YtfgllhomnmacfaaDoor
