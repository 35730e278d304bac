/-
  The laws' helpers on kernels and on answers of chapter 3: marks, copies, sizes. No conditions beyond that the lists can be read, or are the call's own.
-/
import Derived.Test.YtaemegkdmbhpnaaKit3b
namespace Go.Proofs.Ytaemegkdmbhpnaa
open Go.RowKit

/-- the block of a list, if it has anything -/
def gsOf (n g : Nat) : List Nat := if n = 0 then [] else [g]
theorem Mine.keptOf {n1 g1 n g : Nat} {w w' : World} {t : TypeId} {A : Option Addr} {f : Nat → Value} (h : Mine w g (g + 1) t A n f) (k : Kept (gsOf n1 g1) w w') (d : n1 ≠ 0 → n ≠ 0 → g1 ≠ g) : Mine w' g (g + 1) t A n f := by
  by_cases h0 : n = 0
  · exact .inl h0
  · by_cases h1 : n1 = 0
    · rw [gsOf, if_pos h1] at k
      exact h.kept k (by simp)
    · rw [gsOf, if_neg h1] at k
      exact h.kept k (by simp; exact fun e => d h1 h0 e.symm)
theorem Kept.of_only {g : Nat} {w w' : World} (h : Only g (g + 1) w w') : Kept [g] w w' :=
  ⟨h.1.mono (Nat.zero_le _), fun b hb hn => by
    by_cases hlt : b < g
    · exact h.1.block b hlt
    · exact h.2 b (by simp at hn; omega) hb⟩
theorem Kept.of_none {w w' : World} (h : Only 0 0 w w') : Kept [] w w' := ⟨h.1, fun b hb _ => h.2 b (Nat.zero_le _) hb⟩

theorem markInt64S_kept (g : Nat) (A : Option Addr) (n c : Nat) (x : Nat → Int) (m : Nat) (w : World) (hn : n * 8 ≤ 140737488351232) (hm : m ≤ 2305843009213693952) (h : Mine w g (g + 1) 2 A (n) (fun k => .int .i64 (x k))) :
    Calls Try.prog 103 #[.slice A n c, .int .i64 m] w fun e w' =>
      e = .returned (.int .i64 ((m + n : Nat) : Int)) ∧ Mine w' g (g + 1) 2 A (n) (fun k => .int .i64 ((m + k : Nat) : Int)) ∧ Kept (gsOf (n) g) w w' := by
  by_cases h0 : n = 0
  · subst h0
    refine (markInt64S_any 0 0 A 0 c (fun k => .int .i64 (x k)) m w (by omega) (by omega) (fun k hk => ⟨_, rfl⟩) (.inl (by simp))).mono ?_
    rintro e w' ⟨h1, _, h3⟩
    exact ⟨h1, .inl (by simp), Kept.of_none h3⟩
  · refine (markInt64S_any g (g + 1) A n c (fun k => .int .i64 (x k)) m w (by omega) (by omega) (fun k hk => ⟨_, rfl⟩) h).mono ?_
    rintro e w' ⟨h1, h2, h3⟩
    exact ⟨h1, h2, by rw [gsOf, if_neg (by omega)]; exact Kept.of_only h3⟩

theorem gs_notin {n g b : Nat} (h : g ≠ b) : b ∉ gsOf n g := by
  unfold gsOf
  split
  · simp
  · simp; omega
theorem szInt64S_any (A : Option Addr) (n c : Nat) (left : Int) (w : World) (h0 : -9223372036854775808 ≤ left - n) (h1 : left ≤ 9223372036854775807) :
    Calls Try.prog 69 #[.slice A n c, .int .i64 left] w fun e w' => e = .returned (.int .i64 (if left - n < 0 then -1 else left - n)) ∧ w = w' := by
  by_cases h : left - n < 0
  · go_enter Try.func69, Try.ntmps69
    go_wp2
    go_ret
    exact ⟨by first | rfl | rw [if_pos h], rfl⟩
  · have h' : (0 : Int) ≤ left - n := by omega
    go_enter Try.func69, Try.ntmps69
    go_wp2
    go_ret
    exact ⟨by first | rfl | rw [if_neg h], rfl⟩

theorem szBoolS_any (A : Option Addr) (n c : Nat) (left : Int) (w : World) (h0 : -9223372036854775808 ≤ left - n) (h1 : left ≤ 9223372036854775807) :
    Calls Try.prog 70 #[.slice A n c, .int .i64 left] w fun e w' => e = .returned (.int .i64 (if left - n < 0 then -1 else left - n)) ∧ w = w' := by
  by_cases h : left - n < 0
  · go_enter Try.func70, Try.ntmps70
    go_wp2
    go_ret
    exact ⟨by first | rfl | rw [if_pos h], rfl⟩
  · have h' : (0 : Int) ≤ left - n := by omega
    go_enter Try.func70, Try.ntmps70
    go_wp2
    go_ret
    exact ⟨by first | rfl | rw [if_neg h], rfl⟩

theorem szAccountS_any (A : Option Addr) (n c : Nat) (left : Int) (w : World) (h0 : -9223372036854775808 ≤ left - n) (h1 : left ≤ 9223372036854775807) :
    Calls Try.prog 71 #[.slice A n c, .int .i64 left] w fun e w' => e = .returned (.int .i64 (if left - n < 0 then -1 else left - n)) ∧ w = w' := by
  by_cases h : left - n < 0
  · go_enter Try.func71, Try.ntmps71
    go_wp2
    go_ret
    exact ⟨by first | rfl | rw [if_pos h], rfl⟩
  · have h' : (0 : Int) ≤ left - n := by omega
    go_enter Try.func71, Try.ntmps71
    go_wp2
    go_ret
    exact ⟨by first | rfl | rw [if_neg h], rfl⟩

/-- what szKernel leaves of left -/
def szk (left : Int) (n1 n2 n3 : Nat) : Int := if left - n1 < 0 then -1 else if left - n1 - n2 < 0 then -1 else if left - n1 - n2 - n3 < 0 then -1 else left - n1 - n2 - n3
theorem szKernel_any (A1 : Option Addr) (n1 c1 : Nat) (A2 : Option Addr) (n2 c2 : Nat) (A3 : Option Addr) (n3 c3 : Nat) (t r left : Int) (w : World) (h0 : 0 ≤ left) (h1 : left ≤ 1048576) (b1 : n1 ≤ 9223372036854775807) (b2 : n2 ≤ 9223372036854775807) (b3 : n3 ≤ 9223372036854775807) :
    Calls Try.prog 9 #[.agg #[.slice A1 n1 c1, .slice A2 n2 c2, .slice A3 n3 c3, .int .i64 t, .int .i64 r], .int .i64 left] w fun e w' => e = .returned (.int .i64 (szk left n1 n2 n3)) ∧ Below w.heap.size w w' := by
  have B1 := Lib.hid (below_new w (.cells #[.slice A1 n1 c1, .slice A2 n2 c2, .slice A3 n3 c3, .int .i64 t, .int .i64 r] 26))
  by_cases e1 : left - n1 < 0
  · have HV : Hid (-1 = szk left n1 n2 n3) := by show _ = _; unfold szk; rw [if_pos e1]
    have i1 : (if left - (n1 : Int) < 0 then -1 else left - (n1 : Int)) = -1 := if_pos e1
    go_enter Try.func9, Try.ntmps9
    go_wp2_with (first | (go_at_call 69; refine (szInt64S_any _ _ _ _ _ (by omega) (by omega)).mono ?_; rintro e9 w9 ⟨rfl, rfl⟩) | (go_at_call 70; refine (szBoolS_any _ _ _ _ _ (by omega) (by omega)).mono ?_; rintro e9 w9 ⟨rfl, rfl⟩) | (go_at_call 71; refine (szAccountS_any _ _ _ _ _ (by omega) (by omega)).mono ?_; rintro e9 w9 ⟨rfl, rfl⟩))
    go_ret
    exact ⟨by exact ret_i64 HV.out, B1.out⟩
  have i1 : (if left - (n1 : Int) < 0 then -1 else left - (n1 : Int)) = left - n1 := if_neg e1
  by_cases e2 : left - n1 - n2 < 0
  · have HV : Hid (-1 = szk left n1 n2 n3) := by show _ = _; unfold szk; rw [if_neg e1, if_pos e2]
    have i2 : (if left - (n1 : Int) - (n2 : Int) < 0 then -1 else left - (n1 : Int) - (n2 : Int)) = -1 := if_pos e2
    go_enter Try.func9, Try.ntmps9
    go_wp2_with (first | (go_at_call 69; refine (szInt64S_any _ _ _ _ _ (by omega) (by omega)).mono ?_; rintro e9 w9 ⟨rfl, rfl⟩) | (go_at_call 70; refine (szBoolS_any _ _ _ _ _ (by omega) (by omega)).mono ?_; rintro e9 w9 ⟨rfl, rfl⟩) | (go_at_call 71; refine (szAccountS_any _ _ _ _ _ (by omega) (by omega)).mono ?_; rintro e9 w9 ⟨rfl, rfl⟩))
    go_ret
    exact ⟨by exact ret_i64 HV.out, B1.out⟩
  have i2 : (if left - (n1 : Int) - (n2 : Int) < 0 then -1 else left - (n1 : Int) - (n2 : Int)) = left - n1 - n2 := if_neg e2
  by_cases e3 : left - n1 - n2 - n3 < 0
  · have HV : Hid (-1 = szk left n1 n2 n3) := by show _ = _; unfold szk; rw [if_neg e1, if_neg e2, if_pos e3]
    have i3 : (if left - (n1 : Int) - (n2 : Int) - (n3 : Int) < 0 then -1 else left - (n1 : Int) - (n2 : Int) - (n3 : Int)) = -1 := if_pos e3
    go_enter Try.func9, Try.ntmps9
    go_wp2_with (first | (go_at_call 69; refine (szInt64S_any _ _ _ _ _ (by omega) (by omega)).mono ?_; rintro e9 w9 ⟨rfl, rfl⟩) | (go_at_call 70; refine (szBoolS_any _ _ _ _ _ (by omega) (by omega)).mono ?_; rintro e9 w9 ⟨rfl, rfl⟩) | (go_at_call 71; refine (szAccountS_any _ _ _ _ _ (by omega) (by omega)).mono ?_; rintro e9 w9 ⟨rfl, rfl⟩))
    go_ret
    exact ⟨by exact ret_i64 HV.out, B1.out⟩
  have i3 : (if left - (n1 : Int) - (n2 : Int) - (n3 : Int) < 0 then -1 else left - (n1 : Int) - (n2 : Int) - (n3 : Int)) = left - n1 - n2 - n3 := if_neg e3
  have HV : Hid (left - n1 - n2 - n3 = szk left n1 n2 n3) := by show _ = _; unfold szk; rw [if_neg e1, if_neg e2, if_neg e3]
  go_enter Try.func9, Try.ntmps9
  go_wp2_with (first | (go_at_call 69; refine (szInt64S_any _ _ _ _ _ (by omega) (by omega)).mono ?_; rintro e9 w9 ⟨rfl, rfl⟩) | (go_at_call 70; refine (szBoolS_any _ _ _ _ _ (by omega) (by omega)).mono ?_; rintro e9 w9 ⟨rfl, rfl⟩) | (go_at_call 71; refine (szAccountS_any _ _ _ _ _ (by omega) (by omega)).mono ?_; rintro e9 w9 ⟨rfl, rfl⟩))
  go_ret
  exact ⟨by exact ret_i64 HV.out, B1.out⟩

set_option maxHeartbeats 2000000 in
/-- toKernel: the same kernel, in rows of one's own -/
theorem toKernel_any (lo hi : Nat) (A1 : Option Addr) (n1 c1 : Nat) (A2 : Option Addr) (n2 c2 : Nat) (A3 : Option Addr) (n3 c3 : Nat) (t r : Int) (K : Ker) (w : World) (hn1 : n1 * 8 ≤ 140737488351232) (hn2 : n2 * 8 ≤ 140737488351232) (hn3 : n3 * 32 ≤ 140737488351232) (h : KRead w lo hi A1 n1 A2 n2 A3 n3 K) :
    Calls Try.prog 11 #[.agg #[.slice A1 n1 c1, .slice A2 n2 c2, .slice A3 n3 c3, .int .i64 t, .int .i64 r]] w fun e w' => ∃ u1 u2 u3, e = .returned (.agg #[.slice (some ⟨u1, 0, none⟩) n1 n1, .slice (some ⟨u2, 0, none⟩) n2 n2, .slice (some ⟨u3, 0, none⟩) n3 n3, .int .i64 t, .int .i64 r]) ∧
      (w.heap.size < u1 ∧ u1 < u2 ∧ u2 < u3 ∧ u3 < w'.heap.size) ∧ Row w' u1 0 2 n1 (fun k => .int .i64 (gi K.os k)) ∧ Row w' u2 0 4 n2 (fun k => .bool (gb K.al k)) ∧ Row w' u3 0 190 (n3 * 4) (fun k => .int .i64 (gi K.ac k)) ∧ Below w.heap.size w w' := by
  have B0 : Hid (Below w.heap.size w (((w.alloc (.cells #[.slice A1 n1 c1, .slice A2 n2 c2, .slice A3 n3 c3, .int .i64 t, .int .i64 r] 26)).alloc (.cells #[.slice none 0 0, .slice none 0 0, .slice none 0 0, .int .i64 0, .int .i64 0] 33)).alloc (.cells #[.slice none 0 0, .slice none 0 0, .slice none 0 0, .int .i64 0, .int .i64 0] 33))) := (((Below.refl _ _).alloc (Nat.le_refl _) _).alloc (by simp) _).alloc (by simp; omega) _
  have A0' : Hid ((((w.alloc (.cells #[.slice A1 n1 c1, .slice A2 n2 c2, .slice A3 n3 c3, .int .i64 t, .int .i64 r] 26)).alloc (.cells #[.slice none 0 0, .slice none 0 0, .slice none 0 0, .int .i64 0, .int .i64 0] 33)).alloc (.cells #[.slice none 0 0, .slice none 0 0, .slice none 0 0, .int .i64 0, .int .i64 0] 33)).heap[w.heap.size]? = some (.cells #[.slice A1 n1 c1, .slice A2 n2 c2, .slice A3 n3 c3, .int .i64 t, .int .i64 r] 26 (0, 0))) := (Below.heap_alloc _ _ _ (by simp; omega)).trans (heap_alloc2_old w _ _)
  have Z0 : Hid ((((w.alloc (.cells #[.slice A1 n1 c1, .slice A2 n2 c2, .slice A3 n3 c3, .int .i64 t, .int .i64 r] 26)).alloc (.cells #[.slice none 0 0, .slice none 0 0, .slice none 0 0, .int .i64 0, .int .i64 0] 33)).alloc (.cells #[.slice none 0 0, .slice none 0 0, .slice none 0 0, .int .i64 0, .int .i64 0] 33)).heap[w.heap.size + 1]? = some (.cells #[.slice none 0 0, .slice none 0 0, .slice none 0 0, .int .i64 0, .int .i64 0] 33 (0, 0))) := (Below.heap_alloc _ _ _ (by simp)).trans (heap_alloc2_new w _ _)
  have X0 : Hid ((((w.alloc (.cells #[.slice A1 n1 c1, .slice A2 n2 c2, .slice A3 n3 c3, .int .i64 t, .int .i64 r] 26)).alloc (.cells #[.slice none 0 0, .slice none 0 0, .slice none 0 0, .int .i64 0, .int .i64 0] 33)).alloc (.cells #[.slice none 0 0, .slice none 0 0, .slice none 0 0, .int .i64 0, .int .i64 0] 33)).heap[w.heap.size + 1 + 1]? = some (.cells #[.slice none 0 0, .slice none 0 0, .slice none 0 0, .int .i64 0, .int .i64 0] 33 (0, 0))) := by
    have := heap_alloc_new ((w.alloc (.cells #[.slice A1 n1 c1, .slice A2 n2 c2, .slice A3 n3 c3, .int .i64 t, .int .i64 r] 26)).alloc (.cells #[.slice none 0 0, .slice none 0 0, .slice none 0 0, .int .i64 0, .int .i64 0] 33)) (.cells #[.slice none 0 0, .slice none 0 0, .slice none 0 0, .int .i64 0, .int .i64 0] 33)
    simp only [World.size_alloc] at this
    exact this
  have S0 : Hid ((((w.alloc (.cells #[.slice A1 n1 c1, .slice A2 n2 c2, .slice A3 n3 c3, .int .i64 t, .int .i64 r] 26)).alloc (.cells #[.slice none 0 0, .slice none 0 0, .slice none 0 0, .int .i64 0, .int .i64 0] 33)).alloc (.cells #[.slice none 0 0, .slice none 0 0, .slice none 0 0, .int .i64 0, .int .i64 0] 33)).heap.size = w.heap.size + 3) := by show _ = _; simp
  have R := Lib.hid h.lt
  clear h
  go_enter Try.func11, Try.ntmps11
  go_wp2_with fail
  refine (toInt64S_any lo (min hi w.heap.size) A1 n1 c1 (gi K.os) _ (by omega) (R.out.below B0.out (Nat.min_le_right _ _)).2.1 (by have := S0.out; omega)).mono ?_
  rintro e v1 ⟨rfl, m1, hb⟩
  have sp := S0.out
  have sv : (((w.alloc (.cells #[.slice A1 n1 c1, .slice A2 n2 c2, .slice A3 n3 c3, .int .i64 t, .int .i64 r] 26)).alloc (.cells #[.slice none 0 0, .slice none 0 0, .slice none 0 0, .int .i64 0, .int .i64 0] 33)).alloc (.cells #[.slice none 0 0, .slice none 0 0, .slice none 0 0, .int .i64 0, .int .i64 0] 33)).heap.size < v1.heap.size := m1.lt
  obtain ⟨u1, hu1⟩ : ∃ u1, u1 = w.heap.size + 1 + 1 + 1 := ⟨_, rfl⟩
  rw [show (((w.alloc (.cells #[.slice A1 n1 c1, .slice A2 n2 c2, .slice A3 n3 c3, .int .i64 t, .int .i64 r] 26)).alloc (.cells #[.slice none 0 0, .slice none 0 0, .slice none 0 0, .int .i64 0, .int .i64 0] 33)).alloc (.cells #[.slice none 0 0, .slice none 0 0, .slice none 0 0, .int .i64 0, .int .i64 0] 33)).heap.size = w.heap.size + 1 + 1 + 1 from S0.out] at m1 sv
  rw [← hu1] at m1 sv
  have xb := (hb.block (w.heap.size + 1 + 1) (by omega)).trans X0.out
  have ab := (hb.block w.heap.size (by omega)).trans A0'.out
  have zb := (hb.block (w.heap.size + 1) (by omega)).trans Z0.out
  have f0 := frozen_of_row v1 _ 0 _ _ xb
  have x0 := cell_of_row v1 _ 0 _ _ _ xb
  simp at x0
  obtain ⟨w4, hw4⟩ : ∃ w4, w4 = v1.setCell ⟨w.heap.size + 1 + 1, 0, none⟩ (.slice (some ⟨u1, 0, none⟩) n1 n1) := ⟨_, rfl⟩
  have X1 : Hid (w4.heap[w.heap.size + 1 + 1]? = some (.cells #[.slice (some ⟨u1, 0, none⟩) n1 n1, .slice none 0 0, .slice none 0 0, .int .i64 0, .int .i64 0] 33 (0, 0))) := by rw [hw4]; exact heap_setCell_same v1 _ 0 _ _ _ xb
  have A1' : Hid (w4.heap[w.heap.size]? = some (.cells #[.slice A1 n1 c1, .slice A2 n2 c2, .slice A3 n3 c3, .int .i64 t, .int .i64 r] 26 (0, 0))) := by rw [hw4]; exact (Below.heap_setCell v1 ⟨w.heap.size + 1 + 1, 0, none⟩ _ _ (by first | (simp; done) | (simp; omega))).trans ab
  have Z1 : Hid (w4.heap[w.heap.size + 1]? = some (.cells #[.slice none 0 0, .slice none 0 0, .slice none 0 0, .int .i64 0, .int .i64 0] 33 (0, 0))) := by rw [hw4]; exact (Below.heap_setCell v1 ⟨w.heap.size + 1 + 1, 0, none⟩ _ _ (by first | (simp; done) | (simp; omega))).trans zb
  have B1 : Hid (Below w.heap.size w w4) := by rw [hw4]; exact (B0.out.trans (hb.mono (by omega))).setCell (p := ⟨w.heap.size + 1 + 1, 0, none⟩) (by first | (simp; done) | (simp; omega)) _
  have S1 : Hid (w.heap.size + 3 ≤ w4.heap.size ∧ u1 < w4.heap.size ∧ w.heap.size + 3 ≤ u1) := by
    have e : w4.heap.size = v1.heap.size := by rw [hw4]; simp
    show _ ∧ _
    omega
  have M1 : Hid (Row w4 u1 0 2 (n1) (fun k => .int .i64 (gi K.os k))) := by rw [hw4]; exact m1.far (p := ⟨w.heap.size + 1 + 1, 0, none⟩) (by simp; omega) _
  have q := A1'.out
  have q1 := cell_of_row w4 _ 1 _ _ _ q; have q2 := cell_of_row w4 _ 2 _ _ _ q; have q3 := cell_of_row w4 _ 3 _ _ _ q; have q4 := cell_of_row w4 _ 4 _ _ _ q
  simp at q1 q2 q3 q4
  rw [hw4, hu1] at q1 q2 q3 q4
  clear m1 hb sp sv xb ab zb q
  go_wp2_with fail
  rw [← hu1, ← hw4]
  clear hw4
  refine (toBoolS_any lo (min hi w.heap.size) A2 n2 c2 (gb K.al) w4 (by omega) (R.out.below B1.out (Nat.min_le_right _ _)).2.2.1 (by have := S1.out; omega)).mono ?_
  rintro e v2 ⟨rfl, m2, hb⟩
  have sp := S1.out
  have sv : w4.heap.size < v2.heap.size := m2.lt
  obtain ⟨u2, hu2⟩ : ∃ u2, u2 = w4.heap.size := ⟨_, rfl⟩
  rw [← hu2] at m2 sv
  have xb := (hb.block (w.heap.size + 1 + 1) (by omega)).trans X1.out
  have ab := (hb.block w.heap.size (by omega)).trans A1'.out
  have zb := (hb.block (w.heap.size + 1) (by omega)).trans Z1.out
  have f0 := frozen_of_row v2 _ 1 _ _ xb
  have x0 := cell_of_row v2 _ 1 _ _ _ xb
  simp at x0
  obtain ⟨w5, hw5⟩ : ∃ w5, w5 = v2.setCell ⟨w.heap.size + 1 + 1, 1, none⟩ (.slice (some ⟨u2, 0, none⟩) n2 n2) := ⟨_, rfl⟩
  have X2 : Hid (w5.heap[w.heap.size + 1 + 1]? = some (.cells #[.slice (some ⟨u1, 0, none⟩) n1 n1, .slice (some ⟨u2, 0, none⟩) n2 n2, .slice none 0 0, .int .i64 0, .int .i64 0] 33 (0, 0))) := by rw [hw5]; exact heap_setCell_same v2 _ 1 _ _ _ xb
  have A2' : Hid (w5.heap[w.heap.size]? = some (.cells #[.slice A1 n1 c1, .slice A2 n2 c2, .slice A3 n3 c3, .int .i64 t, .int .i64 r] 26 (0, 0))) := by rw [hw5]; exact (Below.heap_setCell v2 ⟨w.heap.size + 1 + 1, 1, none⟩ _ _ (by first | (simp; done) | (simp; omega))).trans ab
  have Z2 : Hid (w5.heap[w.heap.size + 1]? = some (.cells #[.slice none 0 0, .slice none 0 0, .slice none 0 0, .int .i64 0, .int .i64 0] 33 (0, 0))) := by rw [hw5]; exact (Below.heap_setCell v2 ⟨w.heap.size + 1 + 1, 1, none⟩ _ _ (by first | (simp; done) | (simp; omega))).trans zb
  have B2 : Hid (Below w.heap.size w w5) := by rw [hw5]; exact (B1.out.trans (hb.mono (by omega))).setCell (p := ⟨w.heap.size + 1 + 1, 1, none⟩) (by first | (simp; done) | (simp; omega)) _
  have S2 : Hid (w.heap.size + 3 ≤ w5.heap.size ∧ u2 < w5.heap.size ∧ w.heap.size + 3 ≤ u2 ∧ u1 < u2) := by
    have e : w5.heap.size = v2.heap.size := by rw [hw5]; simp
    show _ ∧ _
    omega
  have M2 : Hid (Row w5 u2 0 4 (n2) (fun k => .bool (gb K.al k))) := by rw [hw5]; exact m2.far (p := ⟨w.heap.size + 1 + 1, 1, none⟩) (by simp; omega) _
  have M1 := Lib.hid (show Row w5 u1 0 2 (n1) (fun k => .int .i64 (gi K.os k)) from by rw [hw5]; exact (M1.out.below hb (by omega)).far (p := ⟨w.heap.size + 1 + 1, 1, none⟩) (by simp; omega) _)
  have q := A2'.out
  have q1 := cell_of_row w5 _ 1 _ _ _ q; have q2 := cell_of_row w5 _ 2 _ _ _ q; have q3 := cell_of_row w5 _ 3 _ _ _ q; have q4 := cell_of_row w5 _ 4 _ _ _ q
  simp at q1 q2 q3 q4
  rw [hw5, hu2] at q1 q2 q3 q4
  clear m2 hb sp sv xb ab zb q
  go_wp2_with fail
  rw [← hu2, ← hw5]
  clear hw5
  refine (toAccountS_any lo (min hi w.heap.size) A3 n3 c3 (gi K.ac) w5 (by omega) (R.out.below B2.out (Nat.min_le_right _ _)).2.2.2 (by have := S2.out; omega)).mono ?_
  rintro e v3 ⟨rfl, m3, hb⟩
  have sp := S2.out
  have sv : w5.heap.size < v3.heap.size := m3.lt
  obtain ⟨u3, hu3⟩ : ∃ u3, u3 = w5.heap.size := ⟨_, rfl⟩
  rw [← hu3] at m3 sv
  have xb := (hb.block (w.heap.size + 1 + 1) (by omega)).trans X2.out
  have ab := (hb.block w.heap.size (by omega)).trans A2'.out
  have zb := (hb.block (w.heap.size + 1) (by omega)).trans Z2.out
  have f0 := frozen_of_row v3 _ 2 _ _ xb
  have x0 := cell_of_row v3 _ 2 _ _ _ xb
  simp at x0
  obtain ⟨w6, hw6⟩ : ∃ w6, w6 = v3.setCell ⟨w.heap.size + 1 + 1, 2, none⟩ (.slice (some ⟨u3, 0, none⟩) n3 n3) := ⟨_, rfl⟩
  have X3 : Hid (w6.heap[w.heap.size + 1 + 1]? = some (.cells #[.slice (some ⟨u1, 0, none⟩) n1 n1, .slice (some ⟨u2, 0, none⟩) n2 n2, .slice (some ⟨u3, 0, none⟩) n3 n3, .int .i64 0, .int .i64 0] 33 (0, 0))) := by rw [hw6]; exact heap_setCell_same v3 _ 2 _ _ _ xb
  have A3' : Hid (w6.heap[w.heap.size]? = some (.cells #[.slice A1 n1 c1, .slice A2 n2 c2, .slice A3 n3 c3, .int .i64 t, .int .i64 r] 26 (0, 0))) := by rw [hw6]; exact (Below.heap_setCell v3 ⟨w.heap.size + 1 + 1, 2, none⟩ _ _ (by first | (simp; done) | (simp; omega))).trans ab
  have Z3 : Hid (w6.heap[w.heap.size + 1]? = some (.cells #[.slice none 0 0, .slice none 0 0, .slice none 0 0, .int .i64 0, .int .i64 0] 33 (0, 0))) := by rw [hw6]; exact (Below.heap_setCell v3 ⟨w.heap.size + 1 + 1, 2, none⟩ _ _ (by first | (simp; done) | (simp; omega))).trans zb
  have B3 : Hid (Below w.heap.size w w6) := by rw [hw6]; exact (B2.out.trans (hb.mono (by omega))).setCell (p := ⟨w.heap.size + 1 + 1, 2, none⟩) (by first | (simp; done) | (simp; omega)) _
  have S3 : Hid (w.heap.size + 3 ≤ w6.heap.size ∧ u3 < w6.heap.size ∧ w.heap.size + 3 ≤ u3 ∧ u1 < u3 ∧ u2 < u3) := by
    have e : w6.heap.size = v3.heap.size := by rw [hw6]; simp
    show _ ∧ _
    omega
  have M3 : Hid (Row w6 u3 0 190 (n3 * 4) (fun k => .int .i64 (gi K.ac k))) := by rw [hw6]; exact m3.far (p := ⟨w.heap.size + 1 + 1, 2, none⟩) (by simp; omega) _
  have M1 := Lib.hid (show Row w6 u1 0 2 (n1) (fun k => .int .i64 (gi K.os k)) from by rw [hw6]; exact (M1.out.below hb (by omega)).far (p := ⟨w.heap.size + 1 + 1, 2, none⟩) (by simp; omega) _)
  have M2 := Lib.hid (show Row w6 u2 0 4 (n2) (fun k => .bool (gb K.al k)) from by rw [hw6]; exact (M2.out.below hb (by omega)).far (p := ⟨w.heap.size + 1 + 1, 2, none⟩) (by simp; omega) _)
  have q := A3'.out
  have q1 := cell_of_row w6 _ 1 _ _ _ q; have q2 := cell_of_row w6 _ 2 _ _ _ q; have q3 := cell_of_row w6 _ 3 _ _ _ q; have q4 := cell_of_row w6 _ 4 _ _ _ q
  simp at q1 q2 q3 q4
  rw [hw6, hu3] at q1 q2 q3 q4
  clear m3 hb sp sv xb ab zb q
  go_upto_region 5 with (fail)
  rw [← hu3, ← hw6]
  clear hw6 q1 q2 q3 q4 x0 f0
  obtain ⟨z1, z2, z3, z4, z5⟩ := S3.out
  have zz1 := S1.out
  have zz2 := S2.out
  have q := A3'.out
  have q3 := cell_of_row w6 _ 3 _ _ _ q; have q4 := cell_of_row w6 _ 4 _ _ _ q
  have xb := X3.out
  have e3 := cell_of_row w6 _ 3 _ _ _ xb; have e4 := cell_of_row w6 _ 4 _ _ _ xb
  have f3 := frozen_of_row w6 _ 3 _ _ xb; have f4 := frozen_of_row w6 _ 4 _ _ xb
  simp at q3 q4 e3 e4
  go_upto_region 7 with (fail)
  obtain ⟨w7, hw7⟩ : ∃ w7, w7 = (w6.setCell ⟨w.heap.size + 1 + 1, 3, none⟩ (.int .i64 t)).setCell ⟨w.heap.size + 1 + 1, 4, none⟩ (.int .i64 r) := ⟨_, rfl⟩
  rw [← hw7]
  have X7 : w7.heap[w.heap.size + 1 + 1]? = some (.cells #[.slice (some ⟨u1, 0, none⟩) n1 n1, .slice (some ⟨u2, 0, none⟩) n2 n2, .slice (some ⟨u3, 0, none⟩) n3 n3, .int .i64 t, .int .i64 r] 33 (0, 0)) := by rw [hw7]; exact heap_setCell_same _ _ 4 _ _ _ (heap_setCell_same w6 _ 3 _ _ _ xb)
  have Z7 : w7.heap[w.heap.size + 1]? = some (.cells #[.slice none 0 0, .slice none 0 0, .slice none 0 0, .int .i64 0, .int .i64 0] 33 (0, 0)) := by rw [hw7]; exact (Below.heap_setCell _ ⟨w.heap.size + 1 + 1, 4, none⟩ _ _ (by simp)).trans ((Below.heap_setCell w6 ⟨w.heap.size + 1 + 1, 3, none⟩ _ _ (by simp)).trans Z3.out)
  have B7 : Hid (Below w.heap.size w w7) := by rw [hw7]; exact (B3.out.setCell (p := ⟨w.heap.size + 1 + 1, 3, none⟩) (by simp; omega) _).setCell (p := ⟨w.heap.size + 1 + 1, 4, none⟩) (by simp; omega) _
  have s7 : w7.heap.size = w6.heap.size := by rw [hw7]; simp
  have N1 := Lib.hid (show Row w7 u1 0 2 (n1) (fun k => .int .i64 (gi K.os k)) from by rw [hw7]; exact (M1.out.far (p := ⟨w.heap.size + 1 + 1, 3, none⟩) (by simp; omega) _).far (p := ⟨w.heap.size + 1 + 1, 4, none⟩) (by simp; omega) _)
  have N2 := Lib.hid (show Row w7 u2 0 4 (n2) (fun k => .bool (gb K.al k)) from by rw [hw7]; exact (M2.out.far (p := ⟨w.heap.size + 1 + 1, 3, none⟩) (by simp; omega) _).far (p := ⟨w.heap.size + 1 + 1, 4, none⟩) (by simp; omega) _)
  have N3 := Lib.hid (show Row w7 u3 0 190 (n3 * 4) (fun k => .int .i64 (gi K.ac k)) from by rw [hw7]; exact (M3.out.far (p := ⟨w.heap.size + 1 + 1, 3, none⟩) (by simp; omega) _).far (p := ⟨w.heap.size + 1 + 1, 4, none⟩) (by simp; omega) _)
  have e0 := cell_of_row w7 _ 0 _ _ _ X7; have e1 := cell_of_row w7 _ 1 _ _ _ X7; have e2 := cell_of_row w7 _ 2 _ _ _ X7; have e3 := cell_of_row w7 _ 3 _ _ _ X7; have e4 := cell_of_row w7 _ 4 _ _ _ X7
  have r0 := cell_of_row w7 _ 0 _ _ _ Z7; have r1 := cell_of_row w7 _ 1 _ _ _ Z7; have r2 := cell_of_row w7 _ 2 _ _ _ Z7; have r3 := cell_of_row w7 _ 3 _ _ _ Z7; have r4 := cell_of_row w7 _ 4 _ _ _ Z7
  have y0 := frozen_of_row w7 _ 0 _ _ Z7; have y1 := frozen_of_row w7 _ 1 _ _ Z7; have y2 := frozen_of_row w7 _ 2 _ _ Z7; have y3 := frozen_of_row w7 _ 3 _ _ Z7; have y4 := frozen_of_row w7 _ 4 _ _ Z7
  simp at e0 e1 e2 e3 e4 r0 r1 r2 r3 r4
  have HZ := Lib.hid Z7
  have U := Lib.hid (show w.heap.size < u1 ∧ u1 < u2 ∧ u2 < u3 ∧ u3 < w7.heap.size ∧ w.heap.size + 3 ≤ u1 from by have := S1.out; have := S2.out; omega)
  clear X7 Z7 hw7 q q3 q4 xb f3 f4 hu1 hu2 hu3 z1 z2 z3 z4 z5 s7 zz1 zz2
  go_wp2
  obtain ⟨z1, z2, z3, z4, z5⟩ := U.out
  refine bodyPost_ret (results_cell_row rfl _ _ (w.heap.size + 1) _ _ (0, 0) _ rfl (blk5_set HZ.out _ _ _ _ _) Try.underlying33 rfl (by kernel_rfl)) rfl ⟨u1, u2, u3, rfl, ⟨z1, z2, z3, by simp; omega⟩, ?_, ?_, ?_, below5 B7.out (by omega) _ _ _ _ _⟩
  · exact rfar5 N1.out (by omega) _ _ _ _ _
  · exact rfar5 N2.out (by omega) _ _ _ _ _
  · exact rfar5 N3.out (by omega) _ _ _ _ _

end Go.Proofs.Ytaemegkdmbhpnaa
