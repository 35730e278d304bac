/-
  The draws of chapter 2: each returns an account (and a yes or no), and turns nothing that was there. For codes of at most 2^20 bytes.
  Ahead of it:
  The laws' own small functions: lwNotes of two lists that read alike; lwAt: a place below a number. For codes of at most 2^20 bytes.
  Ahead of it:
  The draws of chapter 1, the others (DrawMoveSlot, DrawDropSlots, DrawSameInts): each returns lists in memory of its own and numbers, and turns nothing that was there. For codes of at most 2^20 bytes.
  Ahead of it:
  The draws of chapter 1 (DrawTakeSlot, DrawFreeSlot, DrawMoveSlot, DrawNewVector, DrawDropSlots, DrawSameInts): each returns lists in memory of its own and numbers, and turns nothing that was there. For codes of at most 2^20 bytes.
  Ahead of it:
  The model's draw of a list of owners (l1Draw): it returns a list of at most 13 small numbers in memory of its own, and writes nothing but its source. For codes of at most 2^20 bytes.
  Ahead of it:
  Picking one number out of a list that is written out in the call: the number is one of the list's, and nothing but the source turns. For codes of at most 2^20 bytes.
-/
import Derived.Test.YtckapndpefkcgaaGreatDraw1
set_option maxHeartbeats 1000000
namespace Go.Proofs.YtckapndpefkcgaaGreat
open Go.RowKit

theorem sl_new (w : World) (cs : Array Value) (t : TypeId) (xs : List Int) (n : Nat) (hc : ∀ j, j < n → cs[j]? = some (.int .i64 (gi xs j))) :
    Sl (w.alloc (.cells cs t)) w.heap.size (w.heap.size + 1) (some ⟨w.heap.size, 0, none⟩) n (fun j => .int .i64 (gi xs j)) :=
  (Row.new w cs t _ n hc).sl (Nat.le_refl _) (Nat.lt_succ_self _)

theorem pick_lit (lo hi g : Nat) (A : Option Addr) (k c a n : Nat) (t : TypeId) (cs : Array Value) (b : Nat → Int) (xs : List Int) (w : World) (hk : k ≤ 1048576) (ha : a ≤ 1099511627776)
    (hb : ∀ j, 0 ≤ b j ∧ b j ≤ 255) (h : Sl w lo hi A k (fun j => .int .u8 (b j))) (hg : hi ≤ g) (hs : Src w g A k c a)
    (ex : xs.length = n) (hn1 : 1 ≤ n) (hn2 : n ≤ 1048576) (hc : ∀ j, j < n → cs[j]? = some (.int .i64 (gi xs j))) :
    Calls Tryz.prog 54 #[.pointer (some ⟨g, 0, none⟩), .slice (some ⟨w.heap.size, 0, none⟩) n n] (w.alloc (.cells cs t))
      fun e w' => ∃ r, r < n ∧ e = .returned (.int .i64 (gi xs r)) ∧ Src w' g A k c (a + 1) ∧ Only g (g + 1) w w' ∧ w.heap.size < w'.heap.size := by
  have hgw := hs.lt
  refine (l1Pick_any lo hi g w.heap.size (w.heap.size + 1) A (some ⟨w.heap.size, 0, none⟩) k c a n n b xs (w.alloc (.cells cs t)) hk ha hb (h.below (below_new w _) (by omega)) hg (hs.alloc _) ex hn1 hn2 (sl_new w cs t xs n hc) hgw (by simp)).mono ?_
  rintro e w' ⟨r, hr, rfl, h1, h2⟩
  exact ⟨r, by rw [← ex]; exact hr, rfl, h1, ((Only.refl g (g + 1) w).alloc (by omega) _).trans h2, by have := h2.1.size; simp at this; omega⟩



theorem hm2 {w wr w2 : World} {g n : Nat} {t : TypeId} {B : Option Addr} {f : Nat → Value} (h : Mine wr w.heap.size wr.heap.size t B n f) (ho : Only g (g + 1) wr w2) (hg : g < w.heap.size) : Mine w2 w.heap.size wr.heap.size t B n f :=
  h.only ho (Nat.le_refl _) (.inr (by omega))



def Own1 (w w' : World) (B : Option Addr) (n c' : Nat) (xs : List Int) : Prop :=
  xs.length = n ∧ n ≤ 13 ∧ (B = none → c' = 0) ∧ Mine w' w.heap.size w'.heap.size 2 B n (fun j => .int .i64 (gi xs j)) ∧ (∀ j, -2 ≤ gi xs j ∧ gi xs j ≤ 4) ∧ Below w.heap.size w w'

theorem DrawNewVector_any (lo hi : Nat) (A : Option Addr) (k c : Nat) (b : Nat → Int) (w : World) (hk : k ≤ 1048576)
    (hb : ∀ j, 0 ≤ b j ∧ b j ≤ 255) (h : Sl w lo hi A k (fun j => .int .u8 (b j))) :
    Calls Tryz.prog 89 #[.slice A k c] w fun e w' => ∃ x, e = .returned (.int .i64 x) ∧ Below w.heap.size w w' := by
  have H := Lib.hid h
  have HBY := Lib.hid hb
  clear h hb
  go_enter Tryz.func89, Tryz.ntmps89
  go_wp2_with fail
  refine (l1Source_any A k c w).mono ?_
  rintro e w1 ⟨rfl, hs1, hb1⟩
  have HC1 : Hid (Sl w1 lo (min hi w.heap.size) A k (fun j => .int .u8 (b j))) := H.out.lt.below hb1 (by omega)
  have CP := Lib.hid (pick_lit lo (min hi w.heap.size) w.heap.size A k c 0 6 2 #[.int .i64 1, .int .i64 5, .int .i64 12, .int .i64 13, .int .i64 0, .int .i64 (-1)] b [1, 5, 12, 13, 0, -1] w1 hk (by omega) HBY.out HC1.out (by omega) hs1 rfl (by omega) (by omega)
    (fun q hq => by rcases (show q = 0 ∨ q = 1 ∨ q = 2 ∨ q = 3 ∨ q = 4 ∨ q = 5 by omega) with rfl | rfl | rfl | rfl | rfl | rfl <;> rfl))
  have HB1 := Lib.hid hb1
  clear hs1 hb1
  go_wp2_with fail
  refine CP.out.mono ?_
  rintro e w2 ⟨r, _, rfl, _, ho, _⟩
  have HB2 := Lib.hid (HB1.out.trans (ho.1.mono (Nat.le_refl _)))
  clear ho CP
  go_wp2
  go_ret
  exact ⟨_, rfl, HB2.out⟩



theorem Own1.after {w w' w2 : World} {B : Option Addr} {n c' : Nat} {xs : List Int} (h : Own1 w w' B n c' xs) (hb : Below w'.heap.size w' w2) : Own1 w w2 B n c' xs := by
  obtain ⟨h1, h2, h3, h4, h5, h6⟩ := h
  exact ⟨h1, h2, h3, (h4.below hb (Nat.le_refl _)).wide (Nat.le_refl _) hb.size, h5, h6.trans (hb.mono h6.size)⟩

theorem lwBig_any (A : Option Addr) (k c : Nat) (w : World) :
    Calls Tryz.prog 7 #[.slice A k c] w fun e w' => e = .returned (.bool (decide ((1048576 : Int) < (k : Int)))) ∧ w = w' := by
  go_enter Tryz.func7, Tryz.ntmps7
  go_wp2
  go_ret
  exact ⟨rfl, rfl⟩

theorem lwNums_any (lo hi lo' hi' : Nat) (A A' : Option Addr) (xs ys : List Int) (n n' c c' : Nat) (w : World) (hn : n * 8 ≤ 140737488351232) (ex : xs.length = n) (ey : ys.length = n')
    (h : Sl w lo hi A n (fun k => .int .i64 (gi xs k))) (h' : Sl w lo' hi' A' n' (fun k => .int .i64 (gi ys k))) :
    Calls Tryz.prog 22 #[.slice A n c, .slice A' n' c'] w fun e w' => e = .returned (.bool (decide (xs = ys))) ∧ Below w.heap.size w w' := by
  have H := Lib.hid h
  have H' := Lib.hid h'
  have EX := Lib.hid ex
  have EY := Lib.hid ey
  clear h h' ex ey
  by_cases hne : n = n'
  · subst hne
    go_enter Tryz.func22, Tryz.ntmps22
    go_wp2
    go_loopw [5] (fun i wr => ∃ k : Nat, k ≤ n ∧ i = .int .i64 k ∧ Below w.heap.size w wr ∧ ∀ j, j < k → gi xs j = gi ys j) (fun i _ => n - (intOf i).toNat)
    case atStart => exact ⟨0, Nat.zero_le _, rfl, Below.refl _ _, fun j hj => absurd hj (Nat.not_lt_zero _)⟩
    case round =>
      obtain ⟨k, hk, rfl, hb, hs⟩ := hrel
      by_cases hlt : k < n
      · obtain ⟨b, off, rfl, h1, h2, hc⟩ := H.out.lt.at_ hlt
        obtain ⟨b', off', rfl, h1', h2', hc'⟩ := H'.out.lt.at_ hlt
        have hck := (hb.cell (p := ⟨b, off + k, none⟩) (by simp; omega)).trans (hc k hlt)
        have hck' := (hb.cell (p := ⟨b', off' + k, none⟩) (by simp; omega)).trans (hc' k hlt)
        have HB := Lib.hid hb
        have HS := Lib.hid hs
        clear hb hc hc' hs H H'
        go_wp2_with fail
        go_quiet (fail)
        by_cases he : gi xs k = gi ys k
        · go_wp2
          go_roundw
          case rel => exact ⟨k + 1, by omega, by go_num, below_drewN HB.out _, upto_succ HS.out he⟩
          case measure => simp [intOf]; omega
        · go_wp2
          go_ret
          exact ⟨ret_false (fun h => he (by rw [h])), below_drewN HB.out _⟩
      · go_wp2
        go_ret
        exact ⟨ret_true (same_lists EX.out EY.out fun j hj => hs j (by omega)), hb⟩
  · go_enter Tryz.func22, Tryz.ntmps22
    go_wp2
    go_ret
    exact ⟨ret_false (fun h => hne (by rw [← EX.out, ← EY.out, h])), Below.refl _ _⟩


set_option maxRecDepth 100000

theorem lwNotes_same (lo hi lo' hi' : Nat) (A A' : Option Addr) (n c c' : Nat) (x : Nat → Int) (w : World) (hn : n * 24 ≤ 140737488351232)
    (h : Sl w lo hi A (n * 3) (fun k => .int .i64 (x k))) (h' : Sl w lo' hi' A' (n * 3) (fun k => .int .i64 (x k))) :
    Calls Tryz.prog 27 #[.slice A n c, .slice A' n c'] w fun e w' => e = .returned (.bool true) ∧ Below w.heap.size w w' := by
  have H := Lib.hid h
  have H' := Lib.hid h'
  clear h h'
  go_enter Tryz.func27, Tryz.ntmps27
  go_wp2
  go_loopw [5] (fun i wr => ∃ k : Nat, k ≤ n ∧ i = .int .i64 k ∧ Below w.heap.size w wr) (fun i _ => n - (intOf i).toNat)
  case atStart => exact ⟨0, Nat.zero_le _, rfl, Below.refl _ _⟩
  case round =>
    obtain ⟨k, hk, rfl, hb⟩ := hrel
    by_cases hlt : k < n
    · obtain ⟨b, off, rfl, h1, h2, hc⟩ := H.out.lt.at_ (show k * 3 < n * 3 by omega)
      obtain ⟨b', off', rfl, h1', h2', hc'⟩ := H'.out.lt.at_ (show k * 3 < n * 3 by omega)
      have p0 : wr.cell? ⟨b, off + k * 3, none⟩ = some (.int .i64 (x (k * 3))) := (hb.cell (p := ⟨b, off + (k * 3), none⟩) (by simp; omega)).trans (hc (k * 3) (by omega))
      have p1 : wr.cell? ⟨b, off + k * 3 + 1, none⟩ = some (.int .i64 (x (k * 3 + 1))) := (hb.cell (p := ⟨b, off + (k * 3 + 1), none⟩) (by simp; omega)).trans (hc (k * 3 + 1) (by omega))
      have p2 : wr.cell? ⟨b, off + k * 3 + 2, none⟩ = some (.int .i64 (x (k * 3 + 2))) := (hb.cell (p := ⟨b, off + (k * 3 + 2), none⟩) (by simp; omega)).trans (hc (k * 3 + 2) (by omega))
      have q0 : wr.cell? ⟨b', off' + k * 3, none⟩ = some (.int .i64 (x (k * 3))) := (hb.cell (p := ⟨b', off' + (k * 3), none⟩) (by simp; omega)).trans (hc' (k * 3) (by omega))
      have q1 : wr.cell? ⟨b', off' + k * 3 + 1, none⟩ = some (.int .i64 (x (k * 3 + 1))) := (hb.cell (p := ⟨b', off' + (k * 3 + 1), none⟩) (by simp; omega)).trans (hc' (k * 3 + 1) (by omega))
      have q2 : wr.cell? ⟨b', off' + k * 3 + 2, none⟩ = some (.int .i64 (x (k * 3 + 2))) := (hb.cell (p := ⟨b', off' + (k * 3 + 2), none⟩) (by simp; omega)).trans (hc' (k * 3 + 2) (by omega))
      have HB := Lib.hid hb
      clear hb hc hc' H H'
      generalize x (k * 3) = x0 at *
      generalize x (k * 3 + 1) = x1 at *
      generalize x (k * 3 + 2) = x2 at *
      go_wp2_with fail
      go_quiet (fail)
      go_wp2
      go_roundw
      case rel => exact ⟨k + 1, by omega, by go_num, below_drewN HB.out _⟩
      case measure => simp [intOf]; omega
    · go_wp2
      go_ret
      exact ⟨rfl, hb⟩



def Drawn2 (g : Nat) (A : Option Addr) (k c a : Nat) (w : World) (e : Ending) (w' : World) : Prop :=
  ∃ u x y d : Int, e = .returned (.agg #[.int .i64 u, .int .i64 x, .int .i64 y, .int .i64 d]) ∧ Src w' g A k c (a + 4) ∧ Only g (g + 1) w w'

set_option maxHeartbeats 1000000 in
theorem l2Draw_any (lo hi g : Nat) (A : Option Addr) (k c a : Nat) (b : Nat → Int) (w : World) (hk : k ≤ 1048576) (ha : a ≤ 1048576)
    (hb : ∀ j, 0 ≤ b j ∧ b j ≤ 255) (h : Sl w lo hi A k (fun j => .int .u8 (b j))) (hg : hi ≤ g) (hs : Src w g A k c a) :
    Calls Tryz.prog 109 #[.pointer (some ⟨g, 0, none⟩)] w (Drawn2 g A k c a w) := by
  have hgw := hs.lt
  have HBY := Lib.hid hb
  have H0 : Hid (Sl (w.alloc (.cells #[.int .i64 0, .int .i64 0, .int .i64 0, .int .i64 0] 68)) lo (min hi w.heap.size) A k (fun j => .int .u8 (b j))) := h.lt.below (below_new w _) (by omega)
  have S0 := Lib.hid (hs.alloc (.cells #[.int .i64 0, .int .i64 0, .int .i64 0, .int .i64 0] 68))
  have O0 : Hid (Only g (g + 1) w (w.alloc (.cells #[.int .i64 0, .int .i64 0, .int .i64 0, .int .i64 0] 68))) := (Only.refl _ _ _).alloc (by omega) _
  have K0 := Lib.hid (heap_alloc_new w (.cells #[.int .i64 0, .int .i64 0, .int .i64 0, .int .i64 0] 68))
  clear h hb hs
  go_enter Tryz.func109, Tryz.ntmps109
  go_wp2_with fail
  have C := pick_lit lo (min hi w.heap.size) g A k c a 9 2 #[.int .i64 0, .int .i64 5, .int .i64 99, .int .i64 999999, .int .i64 1000000, .int .i64 1000001, .int .i64 (-1), .int .i64 7, .int .i64 8] b [0, 5, 99, 999999, 1000000, 1000001, -1, 7, 8] _ hk (by omega) HBY.out H0.out (by omega) S0.out rfl (by omega) (by omega)
    (fun q hq => by rcases (show q = 0 ∨ q = 1 ∨ q = 2 ∨ q = 3 ∨ q = 4 ∨ q = 5 ∨ q = 6 ∨ q = 7 ∨ q = 8 by omega) with rfl | rfl | rfl | rfl | rfl | rfl | rfl | rfl | rfl <;> rfl)
  simp only [World.size_alloc] at C
  refine C.mono ?_
  rintro e w1 ⟨r, _, rfl, hs1, ho1, hz1⟩
  generalize gi [0, 5, 99, 999999, 1000000, 1000001, -1, 7, 8] r = u
  have H1 := Lib.hid (H0.out.only ho1 (by simp; omega) (.inl (by omega)))
  have S1 := Lib.hid hs1
  have O1 := Lib.hid (O0.out.trans ho1)
  have K1 := Lib.hid ((ho1.2 w.heap.size (by omega) (by simp)).trans K0.out)
  clear C hs1 ho1 H0 S0 O0 K0
  go_wp2_with fail
  refine (pick_lit lo (min hi w.heap.size) g A k c (a + 1) 7 2 #[.int .i64 0, .int .i64 5, .int .i64 1000000, .int .i64 3, .int .i64 4, .int .i64 9, .int .i64 (-1)] b [0, 5, 1000000, 3, 4, 9, -1] w1 hk (by omega) HBY.out H1.out (by omega) S1.out rfl (by omega) (by omega)
    (fun q hq => by rcases (show q = 0 ∨ q = 1 ∨ q = 2 ∨ q = 3 ∨ q = 4 ∨ q = 5 ∨ q = 6 by omega) with rfl | rfl | rfl | rfl | rfl | rfl | rfl <;> rfl)).mono ?_
  rintro e w2 ⟨r, _, rfl, hs2, ho2, hz2⟩
  generalize gi [0, 5, 1000000, 3, 4, 9, -1] r = x
  have H2 := Lib.hid (H1.out.only ho2 (by omega) (.inl (by omega)))
  have S2 := Lib.hid hs2
  have O2 := Lib.hid (O1.out.trans ho2)
  have K2 := Lib.hid ((ho2.2 w.heap.size (by omega) (by omega)).trans K1.out)
  clear hs2 ho2 H1 S1 O1 K1
  go_wp2_with fail
  refine (pick_lit lo (min hi w.heap.size) g A k c (a + 1 + 1) 6 2 #[.int .i64 0, .int .i64 7, .int .i64 1000000, .int .i64 1, .int .i64 2, .int .i64 5] b [0, 7, 1000000, 1, 2, 5] w2 hk (by omega) HBY.out H2.out (by omega) S2.out rfl (by omega) (by omega)
    (fun q hq => by rcases (show q = 0 ∨ q = 1 ∨ q = 2 ∨ q = 3 ∨ q = 4 ∨ q = 5 by omega) with rfl | rfl | rfl | rfl | rfl | rfl <;> rfl)).mono ?_
  rintro e w3 ⟨r, _, rfl, hs3, ho3, hz3⟩
  generalize gi [0, 7, 1000000, 1, 2, 5] r = y
  have H3 := Lib.hid (H2.out.only ho3 (by omega) (.inl (by omega)))
  have S3 := Lib.hid hs3
  have O3 := Lib.hid (O2.out.trans ho3)
  have K3 := Lib.hid ((ho3.2 w.heap.size (by omega) (by omega)).trans K2.out)
  clear hs3 ho3 H2 S2 O2 K2
  go_wp2_with fail
  refine (pick_lit lo (min hi w.heap.size) g A k c (a + 1 + 1 + 1) 7 2 #[.int .i64 0, .int .i64 1, .int .i64 2, .int .i64 3, .int .i64 0, .int .i64 3, .int .i64 4] b [0, 1, 2, 3, 0, 3, 4] w3 hk (by omega) HBY.out H3.out (by omega) S3.out rfl (by omega) (by omega)
    (fun q hq => by rcases (show q = 0 ∨ q = 1 ∨ q = 2 ∨ q = 3 ∨ q = 4 ∨ q = 5 ∨ q = 6 by omega) with rfl | rfl | rfl | rfl | rfl | rfl | rfl <;> rfl)).mono ?_
  rintro e w4 ⟨r, _, rfl, hs4, ho4, hz4⟩
  generalize gi [0, 1, 2, 3, 0, 3, 4] r = d
  have k4 := (ho4.2 w.heap.size (by omega) (by omega)).trans K3.out
  have q0 := cell_of_row w4 _ 0 _ _ _ k4
  have q1 := cell_of_row w4 _ 1 _ _ _ k4
  have q2 := cell_of_row w4 _ 2 _ _ _ k4
  have q3 := cell_of_row w4 _ 3 _ _ _ k4
  have f0 := frozen_of_row w4 _ 0 _ _ k4
  have f1 := frozen_of_row w4 _ 1 _ _ k4
  have f2 := frozen_of_row w4 _ 2 _ _ k4
  have f3 := frozen_of_row w4 _ 3 _ _ k4
  simp at q0 q1 q2 q3
  have HK := Lib.hid (heap_setCell_same _ w.heap.size 3 _ _ (.int .i64 d) (heap_setCell_same _ w.heap.size 2 _ _ (.int .i64 y) (heap_setCell_same _ w.heap.size 1 _ _ (.int .i64 x) (heap_setCell_same w4 w.heap.size 0 _ _ (.int .i64 u) k4))))
  have S4 := Lib.hid hs4
  have O4 := Lib.hid (O3.out.trans ho4)
  clear hs4 ho4 H3 S3 O3 K3 k4
  go_wp2
  refine bodyPost_ret (results_cell_row rfl _ _ w.heap.size _ _ (0, 0) _ rfl HK.out Tryz.underlying68 rfl (by kernel_rfl)) rfl ?_
  refine ⟨u, x, y, d, rfl, ?_, ?_, fun q h1 h2 => ?_⟩
  · have e4 := S4.out
    unfold Src at e4 ⊢
    rw [Below.heap_setCell _ _ _ _ (by simp; omega), Below.heap_setCell _ _ _ _ (by simp; omega), Below.heap_setCell _ _ _ _ (by simp; omega), Below.heap_setCell _ _ _ _ (by simp; omega)]
    exact e4
  · exact (((O4.out.1.setCell (by simp; omega) _).setCell (by simp; omega) _).setCell (by simp; omega) _).setCell (by simp; omega) _
  · rw [Below.heap_setCell _ _ _ _ (by simp; omega), Below.heap_setCell _ _ _ _ (by simp; omega), Below.heap_setCell _ _ _ _ (by simp; omega), Below.heap_setCell _ _ _ _ (by simp; omega)]
    exact O4.out.2 q h1 h2

def Acc2 (w : World) (e : Ending) (w' : World) : Prop := ∃ u x y d : Int, e = .returned (.agg #[.int .i64 u, .int .i64 x, .int .i64 y, .int .i64 d]) ∧ Below w.heap.size w w'
end Go.Proofs.YtckapndpefkcgaaGreat
