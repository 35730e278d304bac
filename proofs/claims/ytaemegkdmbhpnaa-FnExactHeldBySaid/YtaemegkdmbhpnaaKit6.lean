/-
  The laws' helpers on locks and on answers of chapter 6: size, copy, compare, mark, look again. No conditions beyond that the lists can be read.
-/
import Derived.Test.YtaemegkdmbhpnaaInts
import Derived.Test.YtaemegkdmbhpnaaBase3
namespace Go.Proofs.Ytaemegkdmbhpnaa
open Go.RowKit
set_option maxRecDepth 100000

theorem sz64_any (A : Option Addr) (n c : Nat) (left : Int) (w : World) (h0 : -9223372036854775808 ≤ left - n) (h1 : left ≤ 9223372036854775807) :
    Calls Try.prog 69 #[.slice A n c, .int .i64 left] w fun e w' => e = .returned (.int .i64 (if left - n < 0 then -1 else left - n)) ∧ w = w' := by
  have wn : IntKind.i64.wrap (left - (n : Int)) = left - (n : Int) := IntWalk.i64_in _ (by omega)
  by_cases h : left - (n : Int) < 0
  · go_enter Try.func69, Try.ntmps69
    go_wp2
    go_ret
    exact ⟨ret_i64 (by first | rfl | exact (if_pos h).symm | simp [h]), rfl⟩
  · go_enter Try.func69, Try.ntmps69
    go_wp2
    go_ret
    exact ⟨ret_i64 (by first | rfl | exact (if_neg h).symm | simp [h]), rfl⟩
theorem szLock_any (A : Option Addr) (n c : Nat) (o left : Int) (w : World) (hn : n ≤ 9223372036854775807) (hl0 : 0 ≤ left) (hl : left ≤ 1048576) :
    Calls Try.prog 161 #[.agg #[.int .i64 o, .slice A n c], .int .i64 left] w fun e w' => e = .returned (.int .i64 (if left - n < 0 then -1 else left - n)) ∧ Below w.heap.size w w' := by
  have B1 : Hid (∀ o, Below w.heap.size w (w.alloc o)) := fun o => (Below.refl _ _).alloc (Nat.le_refl _) o
  have SZ : Hid (∀ W, Calls Try.prog 69 #[.slice A n c, .int .i64 left] W fun e w' => e = .returned (.int .i64 (if left - n < 0 then -1 else left - n)) ∧ W = w') := fun W => sz64_any A n c left W (by omega) (by omega)
  clear hn hl0 hl
  by_cases h : left - (n : Int) < 0
  · rw [if_pos h] at SZ ⊢
    clear h
    go_enter Try.func161, Try.ntmps161
    go_wp2_with fail
    refine (SZ.out _).mono ?_
    rintro e w' ⟨rfl, rfl⟩
    go_wp2
    go_ret
    exact ⟨rfl, B1.out _⟩
  · rw [if_neg h] at SZ ⊢
    obtain ⟨q, hq⟩ : ∃ q, q = left - (n : Int) := ⟨_, rfl⟩
    rw [← hq] at SZ h ⊢
    clear hq
    go_enter Try.func161, Try.ntmps161
    go_wp2_with fail
    refine (SZ.out _).mono ?_
    rintro e w' ⟨rfl, rfl⟩
    go_wp2
    go_ret
    exact ⟨rfl, B1.out _⟩

set_option maxHeartbeats 1000000 in
/-- toLock: the same lock, its queue in a row of its own -/
theorem toLock_any (lo hi : Nat) (A : Option Addr) (n c : Nat) (b : Int) (x : Nat → Int) (w : World) (hn : n * 8 ≤ 140737488351232) (h : Sl w lo hi A n (fun k => .int .i64 (x k))) :
    Calls Try.prog 164 #[.agg #[.int .i64 b, .slice A n c]] w fun e w' => ∃ u, e = .returned (.agg #[.int .i64 b, .slice (some ⟨u, 0, none⟩) n n]) ∧ (w.heap.size < u ∧ u < w'.heap.size) ∧ Row w' u 0 2 n (fun k => .int .i64 (x k)) ∧ Below w.heap.size w w' := by
  have R := Lib.hid h.lt
  clear h
  go_enter Try.func164, Try.ntmps164
  go_wp2_with fail
  obtain ⟨W3, hW3⟩ : ∃ W3, W3 = ((w.alloc (.cells #[.int .i64 b, .slice A n c] 197)).alloc (.cells #[.int .i64 0, .slice none 0 0] 132)).alloc (.cells #[.int .i64 b, .slice none 0 0] 132) := ⟨_, rfl⟩
  have B3 : Below w.heap.size w W3 := by rw [hW3]; exact ((below_new w _).alloc (by simp) _).alloc (by simp; omega) _
  have Z3 : W3.heap.size = w.heap.size + 3 := by rw [hW3]; simp
  have X1 : W3.heap[w.heap.size + 1]? = some (.cells #[.int .i64 0, .slice none 0 0] 132 (0, 0)) := by
    rw [hW3]; exact (Below.heap_alloc _ _ _ (by simp)).trans (heap_alloc2_new w _ _)
  have X2 : W3.heap[w.heap.size + 1 + 1]? = some (.cells #[.int .i64 b, .slice none 0 0] 132 (0, 0)) := by
    have := heap_alloc_new ((w.alloc (.cells #[.int .i64 b, .slice A n c] 197)).alloc (.cells #[.int .i64 0, .slice none 0 0] 132)) (.cells #[.int .i64 b, .slice none 0 0] 132)
    rw [hW3]
    simpa only [World.size_alloc] using this
  rw [← hW3]
  clear hW3
  refine (toInt64S_any lo (min hi w.heap.size) A n c x W3 hn (R.out.below B3 (Nat.min_le_right _ _)) (by omega)).mono ?_
  rintro e w4 ⟨rfl, hrow, hb⟩
  have Y1 := (hb.block (w.heap.size + 1) (by omega)).trans X1
  have Y2 := (hb.block (w.heap.size + 1 + 1) (by omega)).trans X2
  have HR := Lib.hid hrow
  have B4 := Lib.hid (B3.trans (hb.mono (by omega)))
  have ZS := Lib.hid (show W3.heap.size = w.heap.size + 3 from Z3)
  have Z4 := Lib.hid (show w.heap.size + 3 < w4.heap.size by have := hrow.lt; omega)
  obtain ⟨u, hu⟩ : ∃ u, u = W3.heap.size := ⟨_, rfl⟩
  rw [← hu] at HR ZS ⊢
  have HY1 := Lib.hid Y1; have HY2 := Lib.hid Y2
  have c0 := cell_of_row w4 _ 0 _ _ _ Y2; have c1 := cell_of_row w4 _ 1 _ _ _ Y2; have g0 := frozen_of_row w4 _ 0 _ _ Y2; have g1 := frozen_of_row w4 _ 1 _ _ Y2
  have d0 := cell_of_row w4 _ 0 _ _ _ Y1; have d1 := cell_of_row w4 _ 1 _ _ _ Y1; have k0 := frozen_of_row w4 _ 0 _ _ Y1; have k1 := frozen_of_row w4 _ 1 _ _ Y1
  simp at c0 c1 d0 d1
  clear hrow hb X1 X2 Y1 Y2 B3 Z3 hu R
  go_wp2
  have Y3 : (w4.setCell ⟨w.heap.size + 1 + 1, 1, none⟩ (.slice (some ⟨u, 0, none⟩) n n)).heap[w.heap.size + 1]? = some (.cells #[.int .i64 0, .slice none 0 0] 132 (0, 0)) := (Below.heap_setCell _ _ _ _ (by simp)).trans HY1.out
  refine bodyPost_ret (results_cell_row rfl _ _ _ _ _ (0, 0) _ rfl (heap_setCell_same _ _ 1 _ _ _ (heap_setCell_same _ _ 0 _ _ _ Y3)) Try.underlying132 rfl (by kernel_rfl)) rfl ?_
  refine ⟨u, rfl, ⟨by have := ZS.out; omega, by have := Z4.out; have := ZS.out; simp; omega⟩, ?_, ?_⟩
  · exact ((HR.out.far (p := ⟨w.heap.size + 1 + 1, 1, none⟩) (by have := ZS.out; simp; omega) _).far (p := ⟨w.heap.size + 1, 0, none⟩) (by have := ZS.out; simp; omega) _).far (p := ⟨w.heap.size + 1, 1, none⟩) (by have := ZS.out; simp; omega) _
  · exact ((B4.out.setCell (p := ⟨w.heap.size + 1 + 1, 1, none⟩) (by simp; omega) _).setCell (p := ⟨w.heap.size + 1, 0, none⟩) (by simp) _).setCell (p := ⟨w.heap.size + 1, 1, none⟩) (by simp) _

theorem eqLock_same (lo hi lo' hi' : Nat) (A A' : Option Addr) (n c c' : Nat) (b : Int) (x : Nat → Int) (w : World) (hn : n * 8 ≤ 140737488351232)
    (h : Sl w lo hi A n (fun k => .int .i64 (x k))) (h' : Sl w lo' hi' A' n (fun k => .int .i64 (x k))) :
    Calls Try.prog 167 #[.agg #[.int .i64 b, .slice A n c], .agg #[.int .i64 b, .slice A' n c']] w fun e w' => e = .returned (.bool true) ∧ Below w.heap.size w w' := by
  have H := Lib.hid h
  have H' := Lib.hid h'
  clear h h'
  have B2 : ∀ o o', Below w.heap.size w ((w.alloc o).alloc o') := fun o o' => ((Below.refl _ _).alloc (Nat.le_refl _) o).alloc (by simp) o'
  have HB2 := Lib.hid B2
  clear B2
  go_enter Try.func167, Try.ntmps167
  go_wp2_with fail
  refine (eqInt64S_same lo (min hi w.heap.size) lo' (min hi' w.heap.size) A A' n c c' x _ (by omega) (H.out.lt.below (HB2.out _ _) (by omega)) (H'.out.lt.below (HB2.out _ _) (by omega))).mono ?_
  rintro e w' ⟨rfl, hb⟩
  have HB := Lib.hid ((HB2.out _ _).trans (hb.mono (by simp; omega)))
  clear hb
  go_wp2
  go_ret
  exact ⟨rfl, HB.out⟩

theorem Kept.of_only6 {g : Nat} {w w' : World} (h : Only g (g + 1) w w') : Kept [g] w w' :=
  ⟨h.1.mono (Nat.zero_le _), fun b hb hn => by
    simp at hn
    rcases Nat.lt_or_ge b g with h1 | h1
    · exact h.1.block b h1
    · exact h.2 b (by omega) hb⟩
theorem Kept.pre_below6 {gs : List Nat} {a b c : World} (h : Below a.heap.size a b) (k : Kept gs b c) : Kept gs a c := (Kept.of_below h gs).trans k
end Go.Proofs.Ytaemegkdmbhpnaa
