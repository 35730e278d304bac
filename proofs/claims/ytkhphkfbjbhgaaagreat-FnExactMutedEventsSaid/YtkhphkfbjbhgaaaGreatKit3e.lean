/-
  The law's helpers on lists of events: size, copy, compare, mark. No conditions beyond that the lists can be read.
-/
import Derived.Test.YtkhphkfbjbhgaaaGreatCallW
import Derived.Test.YtkhphkfbjbhgaaaGreatOwn4
namespace Go.Proofs.YtkhphkfbjbhgaaaGreat
open Go.RowKit
set_option maxRecDepth 100000

set_option maxHeartbeats 1000000 in
theorem Row.set7 {w : World} {g : Nat} {t : TypeId} {n i : Nat} {f : Nat → Value} (h : Row w g 0 t n f) (hi : i + 6 < n) (u0 u1 u2 u3 u4 u5 u6 : Value) :
    Row (((((((w.setCell ⟨g, i, none⟩ u0).setCell ⟨g, i + 1, none⟩ u1).setCell ⟨g, i + 2, none⟩ u2).setCell ⟨g, i + 3, none⟩ u3).setCell ⟨g, i + 4, none⟩ u4).setCell ⟨g, i + 5, none⟩ u5).setCell ⟨g, i + 6, none⟩ u6) g 0 t n (fun k => (if k = i + 6 then u6 else (if k = i + 5 then u5 else (if k = i + 4 then u4 else (if k = i + 3 then u3 else (if k = i + 2 then u2 else (if k = i + 1 then u1 else (if k = i then u0 else f k)))))))) := by
  have h0 := Row.set h (show i < n by omega) u0
  rw [Nat.zero_add] at h0
  have h1 := Row.set h0 (show i + 1 < n by omega) u1
  rw [Nat.zero_add] at h1
  have h2 := Row.set h1 (show i + 2 < n by omega) u2
  rw [Nat.zero_add] at h2
  have h3 := Row.set h2 (show i + 3 < n by omega) u3
  rw [Nat.zero_add] at h3
  have h4 := Row.set h3 (show i + 4 < n by omega) u4
  rw [Nat.zero_add] at h4
  have h5 := Row.set h4 (show i + 5 < n by omega) u5
  rw [Nat.zero_add] at h5
  have h6 := Row.set h5 (show i + 6 < n by omega) u6
  rw [Nat.zero_add] at h6
  exact h6
set_option maxHeartbeats 1000000 in
theorem below_set7 {B : Nat} {a w : World} {g i : Nat} (h : Below B a w) (hg : B ≤ g) (u0 u1 u2 u3 u4 u5 u6 : Value) : Below B a (((((((w.setCell ⟨g, i, none⟩ u0).setCell ⟨g, i + 1, none⟩ u1).setCell ⟨g, i + 2, none⟩ u2).setCell ⟨g, i + 3, none⟩ u3).setCell ⟨g, i + 4, none⟩ u4).setCell ⟨g, i + 5, none⟩ u5).setCell ⟨g, i + 6, none⟩ u6) :=
  (((((((h.setCell (p := ⟨g, i, none⟩) hg u0).setCell (p := ⟨g, i + 1, none⟩) hg u1).setCell (p := ⟨g, i + 2, none⟩) hg u2).setCell (p := ⟨g, i + 3, none⟩) hg u3).setCell (p := ⟨g, i + 4, none⟩) hg u4).setCell (p := ⟨g, i + 5, none⟩) hg u5).setCell (p := ⟨g, i + 6, none⟩) hg u6)
set_option maxHeartbeats 1000000 in
theorem next7 {N : Nat} (i : Nat) (x : Nat → Int) : ∀ k, k < N → (if k = i * 7 + 6 then .int .i64 (x (i * 7 + 6)) else (if k = i * 7 + 5 then .int .i64 (x (i * 7 + 5)) else (if k = i * 7 + 4 then .int .i64 (x (i * 7 + 4)) else (if k = i * 7 + 3 then .int .i64 (x (i * 7 + 3)) else (if k = i * 7 + 2 then .int .i64 (x (i * 7 + 2)) else (if k = i * 7 + 1 then .int .i64 (x (i * 7 + 1)) else (if k = i * 7 then .int .i64 (x (i * 7)) else (if k < i * 7 then Value.int .i64 (x k) else .int .i64 0)))))))) = (if k < (i + 1) * 7 then Value.int .i64 (x k) else .int .i64 0) := by
  intro k _
  by_cases e6 : k = i * 7 + 6
  · subst e6; first | (simp; done) | (simp; omega)
  rw [if_neg e6]
  by_cases e5 : k = i * 7 + 5
  · subst e5; first | (simp; done) | (simp; omega)
  rw [if_neg e5]
  by_cases e4 : k = i * 7 + 4
  · subst e4; first | (simp; done) | (simp; omega)
  rw [if_neg e4]
  by_cases e3 : k = i * 7 + 3
  · subst e3; first | (simp; done) | (simp; omega)
  rw [if_neg e3]
  by_cases e2 : k = i * 7 + 2
  · subst e2; first | (simp; done) | (simp; omega)
  rw [if_neg e2]
  by_cases e1 : k = i * 7 + 1
  · subst e1; first | (simp; done) | (simp; omega)
  rw [if_neg e1]
  by_cases e0 : k = i * 7
  · subst e0; first | (simp; done) | (simp; omega)
  rw [if_neg e0]
  by_cases hk : k < i * 7
  · rw [if_pos hk, if_pos (by omega)]
  · rw [if_neg hk, if_neg (by omega)]
set_option maxHeartbeats 1000000 in
theorem Row.mark7 {w : World} {g off n k m : Nat} {t : TypeId} {x : Nat → Value} (h : Row w g off t (n * 7) (fun j => if j < k * 7 then .int .i64 ((m + j : Nat) : Int) else x j)) (hk : k < n) :
    Row (((((((w.setCell ⟨g, off + k * 7, none⟩ (.int .i64 ((m : Int) + k * 7))).setCell ⟨g, off + k * 7 + 1, none⟩ (.int .i64 ((m : Int) + k * 7 + 1))).setCell ⟨g, off + k * 7 + 2, none⟩ (.int .i64 ((m : Int) + k * 7 + 1 + 1))).setCell ⟨g, off + k * 7 + 3, none⟩ (.int .i64 ((m : Int) + k * 7 + 1 + 1 + 1))).setCell ⟨g, off + k * 7 + 4, none⟩ (.int .i64 ((m : Int) + k * 7 + 1 + 1 + 1 + 1))).setCell ⟨g, off + k * 7 + 5, none⟩ (.int .i64 ((m : Int) + k * 7 + 1 + 1 + 1 + 1 + 1))).setCell ⟨g, off + k * 7 + 6, none⟩ (.int .i64 ((m : Int) + k * 7 + 1 + 1 + 1 + 1 + 1 + 1))) g off t (n * 7) (fun j => if j < (k + 1) * 7 then .int .i64 ((m + j : Nat) : Int) else x j) := by
  have h0 := Row.set h (show k * 7 < n * 7 by omega) (.int .i64 ((m : Int) + k * 7))
  have h1 := Row.set h0 (show k * 7 + 1 < n * 7 by omega) (.int .i64 ((m : Int) + k * 7 + 1))
  have h2 := Row.set h1 (show k * 7 + 2 < n * 7 by omega) (.int .i64 ((m : Int) + k * 7 + 1 + 1))
  have h3 := Row.set h2 (show k * 7 + 3 < n * 7 by omega) (.int .i64 ((m : Int) + k * 7 + 1 + 1 + 1))
  have h4 := Row.set h3 (show k * 7 + 4 < n * 7 by omega) (.int .i64 ((m : Int) + k * 7 + 1 + 1 + 1 + 1))
  have h5 := Row.set h4 (show k * 7 + 5 < n * 7 by omega) (.int .i64 ((m : Int) + k * 7 + 1 + 1 + 1 + 1 + 1))
  have h6 := Row.set h5 (show k * 7 + 6 < n * 7 by omega) (.int .i64 ((m : Int) + k * 7 + 1 + 1 + 1 + 1 + 1 + 1))
  refine Row.congr h6 fun j hj => ?_
  by_cases e6 : j = k * 7 + 6
  · subst e6; rw [if_pos rfl, if_pos (by omega)]; first | (congr 1; done) | (congr 1; omega)
  rw [if_neg e6]
  by_cases e5 : j = k * 7 + 5
  · subst e5; rw [if_pos rfl, if_pos (by omega)]; first | (congr 1; done) | (congr 1; omega)
  rw [if_neg e5]
  by_cases e4 : j = k * 7 + 4
  · subst e4; rw [if_pos rfl, if_pos (by omega)]; first | (congr 1; done) | (congr 1; omega)
  rw [if_neg e4]
  by_cases e3 : j = k * 7 + 3
  · subst e3; rw [if_pos rfl, if_pos (by omega)]; first | (congr 1; done) | (congr 1; omega)
  rw [if_neg e3]
  by_cases e2 : j = k * 7 + 2
  · subst e2; rw [if_pos rfl, if_pos (by omega)]; first | (congr 1; done) | (congr 1; omega)
  rw [if_neg e2]
  by_cases e1 : j = k * 7 + 1
  · subst e1; rw [if_pos rfl, if_pos (by omega)]; first | (congr 1; done) | (congr 1; omega)
  rw [if_neg e1]
  by_cases e0 : j = k * 7
  · subst e0; rw [if_pos rfl, if_pos (by omega)]; first | (congr 1; done) | (congr 1; omega)
  rw [if_neg e0]
  by_cases hk : j < k * 7
  · rw [if_pos hk, if_pos (by omega)]
  · rw [if_neg hk, if_neg (by omega)]
set_option maxHeartbeats 1000000 in
theorem Only.set7 {lo hi : Nat} {w w' : World} {g i : Nat} (h : Only lo hi w w') (h1 : lo ≤ g) (h2 : g < hi) (u0 u1 u2 u3 u4 u5 u6 : Value) : Only lo hi w (((((((w'.setCell ⟨g, i, none⟩ u0).setCell ⟨g, i + 1, none⟩ u1).setCell ⟨g, i + 2, none⟩ u2).setCell ⟨g, i + 3, none⟩ u3).setCell ⟨g, i + 4, none⟩ u4).setCell ⟨g, i + 5, none⟩ u5).setCell ⟨g, i + 6, none⟩ u6) :=
  (((((((h.setCell (p := ⟨g, i, none⟩) h1 h2 u0).setCell (p := ⟨g, i + 1, none⟩) h1 h2 u1).setCell (p := ⟨g, i + 2, none⟩) h1 h2 u2).setCell (p := ⟨g, i + 3, none⟩) h1 h2 u3).setCell (p := ⟨g, i + 4, none⟩) h1 h2 u4).setCell (p := ⟨g, i + 5, none⟩) h1 h2 u5).setCell (p := ⟨g, i + 6, none⟩) h1 h2 u6)

set_option maxHeartbeats 1000000 in
theorem eqAct_same (a b : Int) (w : World) :
    Calls Tryz.prog 135 #[.agg #[.int .i64 a, .int .i64 b], .agg #[.int .i64 a, .int .i64 b]] w fun r w' => r = .returned (.bool true) ∧ Below w.heap.size w w' := by
  have B2 : Hid (∀ o o', Below w.heap.size w ((w.alloc o).alloc o')) := fun o o' => ((Below.refl _ _).alloc (Nat.le_refl _) o).alloc (by simp) o'
  go_enter Tryz.func135, Tryz.ntmps135
  go_wp2
  go_ret
  exact ⟨rfl, B2.out _ _⟩
set_option maxHeartbeats 1000000 in
theorem eqCall_same (c e s t : Int) (w : World) :
    Calls Tryz.prog 136 #[.agg #[.int .i64 c, .int .i64 e, .int .i64 s, .int .i64 t], .agg #[.int .i64 c, .int .i64 e, .int .i64 s, .int .i64 t]] w fun r w' => r = .returned (.bool true) ∧ Below w.heap.size w w' := by
  have B2 : Hid (∀ o o', Below w.heap.size w ((w.alloc o).alloc o')) := fun o o' => ((Below.refl _ _).alloc (Nat.le_refl _) o).alloc (by simp) o'
  go_enter Tryz.func136, Tryz.ntmps136
  go_wp2
  go_ret
  exact ⟨rfl, B2.out _ _⟩
set_option maxHeartbeats 1000000 in
theorem eqEvent_same (k a b c e s t : Int) (w : World) :
    Calls Tryz.prog 67 #[.agg #[.int .i64 k, .int .i64 a, .int .i64 b, .int .i64 c, .int .i64 e, .int .i64 s, .int .i64 t], .agg #[.int .i64 k, .int .i64 a, .int .i64 b, .int .i64 c, .int .i64 e, .int .i64 s, .int .i64 t]] w fun r w' => r = .returned (.bool true) ∧ Below w.heap.size w w' := by
  obtain ⟨w1, hw1⟩ : ∃ w1, w1 = (w.alloc (.cells #[.int .i64 k, .int .i64 a, .int .i64 b, .int .i64 c, .int .i64 e, .int .i64 s, .int .i64 t] 78)).alloc (.cells #[.int .i64 k, .int .i64 a, .int .i64 b, .int .i64 c, .int .i64 e, .int .i64 s, .int .i64 t] 78) := ⟨_, rfl⟩
  have k1 : w1.heap[w.heap.size]? = some (.cells #[.int .i64 k, .int .i64 a, .int .i64 b, .int .i64 c, .int .i64 e, .int .i64 s, .int .i64 t] 78 (0, 0)) := by rw [hw1]; exact heap_alloc2_old w _ _
  have k2 : w1.heap[w.heap.size + 1]? = some (.cells #[.int .i64 k, .int .i64 a, .int .i64 b, .int .i64 c, .int .i64 e, .int .i64 s, .int .i64 t] 78 (0, 0)) := by rw [hw1]; exact heap_alloc2_new w _ _
  have B1 : Hid (Below w.heap.size w w1) := by rw [hw1]; exact (below_new w _).alloc (by simp) _
  have Z1 : Hid (w1.heap.size = w.heap.size + 2) := by show _ = _; rw [hw1]; simp
  have KS : Hid (∀ W, Below w1.heap.size w1 W → (W.cell? ⟨w.heap.size, 0, none⟩ = some (.int .i64 k) ∧ W.cell? ⟨w.heap.size, 1, none⟩ = some (.int .i64 a) ∧ W.cell? ⟨w.heap.size, 2, none⟩ = some (.int .i64 b) ∧ W.cell? ⟨w.heap.size, 3, none⟩ = some (.int .i64 c) ∧ W.cell? ⟨w.heap.size, 4, none⟩ = some (.int .i64 e) ∧ W.cell? ⟨w.heap.size, 5, none⟩ = some (.int .i64 s) ∧ W.cell? ⟨w.heap.size, 6, none⟩ = some (.int .i64 t)) ∧ (W.cell? ⟨w.heap.size + 1, 0, none⟩ = some (.int .i64 k) ∧ W.cell? ⟨w.heap.size + 1, 1, none⟩ = some (.int .i64 a) ∧ W.cell? ⟨w.heap.size + 1, 2, none⟩ = some (.int .i64 b) ∧ W.cell? ⟨w.heap.size + 1, 3, none⟩ = some (.int .i64 c) ∧ W.cell? ⟨w.heap.size + 1, 4, none⟩ = some (.int .i64 e) ∧ W.cell? ⟨w.heap.size + 1, 5, none⟩ = some (.int .i64 s) ∧ W.cell? ⟨w.heap.size + 1, 6, none⟩ = some (.int .i64 t))) := fun W hW => by
    have j := (hW.block w.heap.size (by have := Z1.out; omega)).trans k1
    have j2 := (hW.block (w.heap.size + 1) (by have := Z1.out; omega)).trans k2
    exact ⟨⟨cell_of_row W _ 0 _ _ _ j, cell_of_row W _ 1 _ _ _ j, cell_of_row W _ 2 _ _ _ j, cell_of_row W _ 3 _ _ _ j, cell_of_row W _ 4 _ _ _ j, cell_of_row W _ 5 _ _ _ j, cell_of_row W _ 6 _ _ _ j⟩, cell_of_row W _ 0 _ _ _ j2, cell_of_row W _ 1 _ _ _ j2, cell_of_row W _ 2 _ _ _ j2, cell_of_row W _ 3 _ _ _ j2, cell_of_row W _ 4 _ _ _ j2, cell_of_row W _ 5 _ _ _ j2, cell_of_row W _ 6 _ _ _ j2⟩
  have FIN : Hid (∀ W, Below w1.heap.size w1 W → Below w.heap.size w W) := fun W hW => B1.out.trans (hW.mono (by have := Z1.out; omega))
  have HW1 := Lib.hid hw1
  clear k1 k2 hw1
  obtain ⟨⟨q0, q1, q2, q3, q4, q5, q6⟩, r0, r1, r2, r3, r4, r5, r6⟩ := KS.out w1 (Below.refl _ _)
  go_enter Tryz.func67, Tryz.ntmps67
  go_upto_region 1 with (fail)
  rw [← HW1.out]
  clear HW1
  go_wp2_with fail
  refine (eqAct_same a b w1).mono ?_
  rintro r w2 ⟨rfl, hb⟩
  have R2 := Lib.hid hb
  clear hb q0 q1 q2 q3 q4 q5 q6 r0 r1 r2 r3 r4 r5 r6
  obtain ⟨⟨q0, q1, q2, q3, q4, q5, q6⟩, r0, r1, r2, r3, r4, r5, r6⟩ := KS.out w2 R2.out
  go_wp2_with fail
  refine (eqCall_same c e s t w2).mono ?_
  rintro r w3 ⟨rfl, hb⟩
  have R3 := Lib.hid (R2.out.trans (hb.mono R2.out.size))
  clear hb q0 q1 q2 q3 q4 q5 q6 r0 r1 r2 r3 r4 r5 r6
  go_wp2
  go_ret
  exact ⟨rfl, FIN.out _ R3.out⟩

set_option maxHeartbeats 1000000 in
theorem Tryz.info_Event7 : (Tryz.prog.info? 78).map (fun i => (i.zero, i.size, i.bytes)) = some (some (.agg #[.int .i64 0, .int .i64 0, .int .i64 0, .int .i64 0, .int .i64 0, .int .i64 0, .int .i64 0]), 7, 56) := by kernel_rfl
set_option maxHeartbeats 1000000 in
theorem szEventS_any (A : Option Addr) (n c : Nat) (w : World) (hn : n ≤ 9223372036854775807) :
    Calls Tryz.prog 11 #[.slice A n c, .int .i64 1048576] w fun e w' => e = .returned (.int .i64 (if n ≤ 1048576 then 1048576 - (n : Int) else -1)) ∧ w = w' := by
  have wn : IntKind.i64.wrap (1048576 - (n : Int)) = 1048576 - (n : Int) := IntWalk.i64_in _ (by omega)
  by_cases h : n ≤ 1048576
  · have h1 : ¬ (1048576 - (n : Int) < 0) := by omega
    go_enter Tryz.func11, Tryz.ntmps11
    go_wp2
    go_ret
    exact ⟨ret_i64 (by first | rfl | exact (if_pos h).symm | simp [h]), rfl⟩
  · have h1 : 1048576 - (n : Int) < 0 := by omega
    go_enter Tryz.func11, Tryz.ntmps11
    go_wp2
    go_ret
    exact ⟨ret_i64 (by first | rfl | exact (if_neg h).symm | simp [h]), rfl⟩

set_option maxHeartbeats 4000000 in
theorem toEventS_any (lo hi : Nat) (A : Option Addr) (n c : Nat) (x : Nat → Int) (w : World) (hn : n * 56 ≤ 140737488351232) (h : Sl w lo hi A (n * 7) (fun k => .int .i64 (x k))) (hhi : hi ≤ w.heap.size) :
    Calls Tryz.prog 13 #[.slice A n c] w fun e w' =>
      e = .returned (.slice (some ⟨w.heap.size, 0, none⟩) n n) ∧ Row w' w.heap.size 0 78 (n * 7) (fun k => .int .i64 (x k)) ∧ Below w.heap.size w w' := by
  have hmk := run_make_rows (P := Tryz.prog) 27 78 _ 7 56 Tryz.underlying27 Tryz.info_Event7 .i64 .i64 n (by omega) (by omega)
  have H := Lib.hid h
  clear h
  go_enter Tryz.func13, Tryz.ntmps13
  go_wp2
  go_loopw [4] (fun i wr => ∃ k : Nat, k ≤ n ∧ i = .int .i64 k ∧ Row wr w.heap.size 0 78 (n * 7) (fun j => if j < k * 7 then .int .i64 (x j) else .int .i64 0) ∧ Below w.heap.size w wr) (fun i _ => n - (intOf i).toNat)
  case atStart => exact ⟨0, Nat.zero_le _, rfl, (Row.mades w _ (.int .i64 0) (n * 7) _ (by decide) (by intro r hr; match r, hr with | 0, _ => rfl | 1, _ => rfl | 2, _ => rfl | 3, _ => rfl | 4, _ => rfl | 5, _ => rfl | 6, _ => rfl)).congr (fun k hk => by simp), (Below.refl _ _).alloc (Nat.le_refl _) _⟩
  case round =>
    obtain ⟨k, hk, rfl, hrow, hb⟩ := hrel
    by_cases hlt : k < n
    · obtain ⟨b, off, rfl, h1, h2, hc⟩ := H.out.at_ (show k * 7 < n * 7 by omega)
      have c0 : wr.cell? ⟨b, off + k * 7, none⟩ = some (.int .i64 (x (k * 7))) := (hb.cell (p := ⟨b, off + (k * 7), none⟩) (by simp; omega)).trans (hc (k * 7) (by omega))
      have c1 : wr.cell? ⟨b, off + k * 7 + 1, none⟩ = some (.int .i64 (x (k * 7 + 1))) := (hb.cell (p := ⟨b, off + (k * 7 + 1), none⟩) (by simp; omega)).trans (hc (k * 7 + 1) (by omega))
      have c2 : wr.cell? ⟨b, off + k * 7 + 2, none⟩ = some (.int .i64 (x (k * 7 + 2))) := (hb.cell (p := ⟨b, off + (k * 7 + 2), none⟩) (by simp; omega)).trans (hc (k * 7 + 2) (by omega))
      have c3 : wr.cell? ⟨b, off + k * 7 + 3, none⟩ = some (.int .i64 (x (k * 7 + 3))) := (hb.cell (p := ⟨b, off + (k * 7 + 3), none⟩) (by simp; omega)).trans (hc (k * 7 + 3) (by omega))
      have c4 : wr.cell? ⟨b, off + k * 7 + 4, none⟩ = some (.int .i64 (x (k * 7 + 4))) := (hb.cell (p := ⟨b, off + (k * 7 + 4), none⟩) (by simp; omega)).trans (hc (k * 7 + 4) (by omega))
      have c5 : wr.cell? ⟨b, off + k * 7 + 5, none⟩ = some (.int .i64 (x (k * 7 + 5))) := (hb.cell (p := ⟨b, off + (k * 7 + 5), none⟩) (by simp; omega)).trans (hc (k * 7 + 5) (by omega))
      have c6 : wr.cell? ⟨b, off + k * 7 + 6, none⟩ = some (.int .i64 (x (k * 7 + 6))) := (hb.cell (p := ⟨b, off + (k * 7 + 6), none⟩) (by simp; omega)).trans (hc (k * 7 + 6) (by omega))
      have HR := Lib.hid hrow
      have HB := Lib.hid hb
      clear hc hrow hb H
      go_wp2_with fail
      refine (toEvent_any _ _ _ _ _ _ _ _).mono ?_
      rintro e w1 ⟨rfl, hb1⟩
      have hrow := HR.out.below hb1 HR.out.lt
      have o0 := hrow.cell (show k * 7 + 0 < n * 7 by omega)
      have f0 := hrow.frozen (0 + (k * 7 + 0))
      have o1 := hrow.cell (show k * 7 + 1 < n * 7 by omega)
      have f1 := hrow.frozen (0 + (k * 7 + 1))
      have o2 := hrow.cell (show k * 7 + 2 < n * 7 by omega)
      have f2 := hrow.frozen (0 + (k * 7 + 2))
      have o3 := hrow.cell (show k * 7 + 3 < n * 7 by omega)
      have f3 := hrow.frozen (0 + (k * 7 + 3))
      have o4 := hrow.cell (show k * 7 + 4 < n * 7 by omega)
      have f4 := hrow.frozen (0 + (k * 7 + 4))
      have o5 := hrow.cell (show k * 7 + 5 < n * 7 by omega)
      have f5 := hrow.frozen (0 + (k * 7 + 5))
      have o6 := hrow.cell (show k * 7 + 6 < n * 7 by omega)
      have f6 := hrow.frozen (0 + (k * 7 + 6))
      simp only [Nat.zero_add, Nat.add_zero] at o0 f0 o1 f1 o2 f2 o3 f3 o4 f4 o5 f5 o6 f6
      have HB2 := Lib.hid (HB.out.trans (hb1.mono HB.out.size))
      have HR2 := Lib.hid hrow
      clear hrow hb1 HR HB
      go_wp2
      go_roundw
      case rel => exact ⟨k + 1, by omega, by go_num, (HR2.out.set7 (by omega) (.int .i64 (x (k * 7))) (.int .i64 (x (k * 7 + 1))) (.int .i64 (x (k * 7 + 2))) (.int .i64 (x (k * 7 + 3))) (.int .i64 (x (k * 7 + 4))) (.int .i64 (x (k * 7 + 5))) (.int .i64 (x (k * 7 + 6)))).congr (next7 k x), below_set7 HB2.out (Nat.le_refl _) _ _ _ _ _ _ _⟩
      case measure => simp [intOf]; omega
    · go_wp2
      go_ret
      exact ⟨rfl, hrow.congr (fun j hj => by rw [if_pos (by omega)]), hb⟩

set_option maxHeartbeats 4000000 in
theorem eqEventS_same (lo hi lo' hi' : Nat) (A A' : Option Addr) (n c c' : Nat) (x : Nat → Int) (w : World) (hn : n * 56 ≤ 140737488351232)
    (h : Sl w lo hi A (n * 7) (fun k => .int .i64 (x k))) (h' : Sl w lo' hi' A' (n * 7) (fun k => .int .i64 (x k))) :
    Calls Tryz.prog 16 #[.slice A n c, .slice A' n c'] w fun e w' => e = .returned (.bool true) ∧ Below w.heap.size w w' := by
  have H := Lib.hid h
  have H' := Lib.hid h'
  clear h h'
  go_enter Tryz.func16, Tryz.ntmps16
  go_wp2
  go_loopw [5] (fun i wr => ∃ k : Nat, k ≤ n ∧ i = .int .i64 k ∧ Below w.heap.size w wr) (fun i _ => n - (intOf i).toNat)
  case atStart => exact ⟨0, Nat.zero_le _, rfl, Below.refl _ _⟩
  case round =>
    obtain ⟨k, hk, rfl, hb⟩ := hrel
    by_cases hlt : k < n
    · obtain ⟨b, off, rfl, h1, h2, hc⟩ := H.out.lt.at_ (show k * 7 < n * 7 by omega)
      obtain ⟨b', off', rfl, h1', h2', hc'⟩ := H'.out.lt.at_ (show k * 7 < n * 7 by omega)
      have p0 : wr.cell? ⟨b, off + k * 7, none⟩ = some (.int .i64 (x (k * 7))) := (hb.cell (p := ⟨b, off + (k * 7), none⟩) (by simp; omega)).trans (hc (k * 7) (by omega))
      have p1 : wr.cell? ⟨b, off + k * 7 + 1, none⟩ = some (.int .i64 (x (k * 7 + 1))) := (hb.cell (p := ⟨b, off + (k * 7 + 1), none⟩) (by simp; omega)).trans (hc (k * 7 + 1) (by omega))
      have p2 : wr.cell? ⟨b, off + k * 7 + 2, none⟩ = some (.int .i64 (x (k * 7 + 2))) := (hb.cell (p := ⟨b, off + (k * 7 + 2), none⟩) (by simp; omega)).trans (hc (k * 7 + 2) (by omega))
      have p3 : wr.cell? ⟨b, off + k * 7 + 3, none⟩ = some (.int .i64 (x (k * 7 + 3))) := (hb.cell (p := ⟨b, off + (k * 7 + 3), none⟩) (by simp; omega)).trans (hc (k * 7 + 3) (by omega))
      have p4 : wr.cell? ⟨b, off + k * 7 + 4, none⟩ = some (.int .i64 (x (k * 7 + 4))) := (hb.cell (p := ⟨b, off + (k * 7 + 4), none⟩) (by simp; omega)).trans (hc (k * 7 + 4) (by omega))
      have p5 : wr.cell? ⟨b, off + k * 7 + 5, none⟩ = some (.int .i64 (x (k * 7 + 5))) := (hb.cell (p := ⟨b, off + (k * 7 + 5), none⟩) (by simp; omega)).trans (hc (k * 7 + 5) (by omega))
      have p6 : wr.cell? ⟨b, off + k * 7 + 6, none⟩ = some (.int .i64 (x (k * 7 + 6))) := (hb.cell (p := ⟨b, off + (k * 7 + 6), none⟩) (by simp; omega)).trans (hc (k * 7 + 6) (by omega))
      have q0 : wr.cell? ⟨b', off' + k * 7, none⟩ = some (.int .i64 (x (k * 7))) := (hb.cell (p := ⟨b', off' + (k * 7), none⟩) (by simp; omega)).trans (hc' (k * 7) (by omega))
      have q1 : wr.cell? ⟨b', off' + k * 7 + 1, none⟩ = some (.int .i64 (x (k * 7 + 1))) := (hb.cell (p := ⟨b', off' + (k * 7 + 1), none⟩) (by simp; omega)).trans (hc' (k * 7 + 1) (by omega))
      have q2 : wr.cell? ⟨b', off' + k * 7 + 2, none⟩ = some (.int .i64 (x (k * 7 + 2))) := (hb.cell (p := ⟨b', off' + (k * 7 + 2), none⟩) (by simp; omega)).trans (hc' (k * 7 + 2) (by omega))
      have q3 : wr.cell? ⟨b', off' + k * 7 + 3, none⟩ = some (.int .i64 (x (k * 7 + 3))) := (hb.cell (p := ⟨b', off' + (k * 7 + 3), none⟩) (by simp; omega)).trans (hc' (k * 7 + 3) (by omega))
      have q4 : wr.cell? ⟨b', off' + k * 7 + 4, none⟩ = some (.int .i64 (x (k * 7 + 4))) := (hb.cell (p := ⟨b', off' + (k * 7 + 4), none⟩) (by simp; omega)).trans (hc' (k * 7 + 4) (by omega))
      have q5 : wr.cell? ⟨b', off' + k * 7 + 5, none⟩ = some (.int .i64 (x (k * 7 + 5))) := (hb.cell (p := ⟨b', off' + (k * 7 + 5), none⟩) (by simp; omega)).trans (hc' (k * 7 + 5) (by omega))
      have q6 : wr.cell? ⟨b', off' + k * 7 + 6, none⟩ = some (.int .i64 (x (k * 7 + 6))) := (hb.cell (p := ⟨b', off' + (k * 7 + 6), none⟩) (by simp; omega)).trans (hc' (k * 7 + 6) (by omega))
      have HB := Lib.hid hb
      clear hb hc hc' H H'
      go_wp2_with fail
      go_region_with (refine (eqEvent_same _ _ _ _ _ _ _ _).mono ?_; rintro e w1 ⟨rfl, hb1⟩; have HB1 := Lib.hid ((below_drewN HB.out 1).trans (hb1.mono HB.out.size)); clear hb1)
      all_goals
        go_wp2
        go_roundw
        case rel => exact ⟨k + 1, by omega, by go_num, HB1.out⟩
        case measure => simp [intOf]; omega
    · go_wp2
      go_ret
      exact ⟨rfl, hb⟩

set_option maxHeartbeats 8000000 in
theorem markEventS_any (lo hi : Nat) (A : Option Addr) (n c : Nat) (x : Nat → Value) (m : Nat) (w : World) (hn : n * 56 ≤ 140737488351232) (hm : m ≤ 1000000000000)
    (hx : ∀ k, k < n * 7 → ∃ y, x k = .int .i64 y) (h : Mine w lo hi 78 A (n * 7) x) :
    Calls Tryz.prog 20 #[.slice A n c, .int .i64 m] w fun e w' =>
      e = .returned (.int .i64 ((m + n * 7 : Nat) : Int)) ∧ Mine w' lo hi 78 A (n * 7) (fun k => .int .i64 ((m + k : Nat) : Int)) ∧ Only lo hi w w' := by
  have H := Lib.hid h
  have X := Lib.hid hx
  clear h hx
  go_enter Tryz.func20, Tryz.ntmps20
  go_wp2
  go_loopw [1, 5] (fun q i wr => ∃ k : Nat, k ≤ n ∧ i = .int .i64 k ∧ q = .int .i64 ((m + k * 7 : Nat) : Int) ∧ Mine wr lo hi 78 A (n * 7) (fun j => if j < k * 7 then .int .i64 ((m + j : Nat) : Int) else x j) ∧ Only lo hi w wr) (fun _ i _ => n - (intOf i).toNat)
  case atStart => exact ⟨0, Nat.zero_le _, rfl, by go_num, H.out.congr (fun k hk => by simp), Only.refl _ _ _⟩
  case round =>
    obtain ⟨k, hk, rfl, rfl, hmine, hb⟩ := hrel
    by_cases hlt : k < n
    · rcases hmine with h0 | ⟨g, off, rfl, h1, h2, hrow⟩
      · omega
      obtain ⟨y0, hy0⟩ := X.out (k * 7 + 0) (by omega)
      have o0 : wr.cell? ⟨g, off + k * 7, none⟩ = some (.int .i64 y0) := by
        have := hrow.cell (show k * 7 + 0 < n * 7 by omega)
        rw [if_neg (by omega), hy0] at this
        exact this
      have f0 := hrow.frozen (off + k * 7)
      obtain ⟨y1, hy1⟩ := X.out (k * 7 + 1) (by omega)
      have o1 : wr.cell? ⟨g, off + k * 7 + 1, none⟩ = some (.int .i64 y1) := by
        have := hrow.cell (show k * 7 + 1 < n * 7 by omega)
        rw [if_neg (by omega), hy1] at this
        exact this
      have f1 := hrow.frozen (off + k * 7 + 1)
      obtain ⟨y2, hy2⟩ := X.out (k * 7 + 2) (by omega)
      have o2 : wr.cell? ⟨g, off + k * 7 + 2, none⟩ = some (.int .i64 y2) := by
        have := hrow.cell (show k * 7 + 2 < n * 7 by omega)
        rw [if_neg (by omega), hy2] at this
        exact this
      have f2 := hrow.frozen (off + k * 7 + 2)
      obtain ⟨y3, hy3⟩ := X.out (k * 7 + 3) (by omega)
      have o3 : wr.cell? ⟨g, off + k * 7 + 3, none⟩ = some (.int .i64 y3) := by
        have := hrow.cell (show k * 7 + 3 < n * 7 by omega)
        rw [if_neg (by omega), hy3] at this
        exact this
      have f3 := hrow.frozen (off + k * 7 + 3)
      obtain ⟨y4, hy4⟩ := X.out (k * 7 + 4) (by omega)
      have o4 : wr.cell? ⟨g, off + k * 7 + 4, none⟩ = some (.int .i64 y4) := by
        have := hrow.cell (show k * 7 + 4 < n * 7 by omega)
        rw [if_neg (by omega), hy4] at this
        exact this
      have f4 := hrow.frozen (off + k * 7 + 4)
      obtain ⟨y5, hy5⟩ := X.out (k * 7 + 5) (by omega)
      have o5 : wr.cell? ⟨g, off + k * 7 + 5, none⟩ = some (.int .i64 y5) := by
        have := hrow.cell (show k * 7 + 5 < n * 7 by omega)
        rw [if_neg (by omega), hy5] at this
        exact this
      have f5 := hrow.frozen (off + k * 7 + 5)
      obtain ⟨y6, hy6⟩ := X.out (k * 7 + 6) (by omega)
      have o6 : wr.cell? ⟨g, off + k * 7 + 6, none⟩ = some (.int .i64 y6) := by
        have := hrow.cell (show k * 7 + 6 < n * 7 by omega)
        rw [if_neg (by omega), hy6] at this
        exact this
      have f6 := hrow.frozen (off + k * 7 + 6)
      have e0 : ((m + k * 7 : Nat) : Int) = (m : Int) + k * 7 := by omega
      have HR := Lib.hid (hrow.mark7 hlt)
      have HB := Lib.hid (hb.set7 (g := g) (i := off + k * 7) h1 h2 (.int .i64 ((m : Int) + k * 7)) (.int .i64 ((m : Int) + k * 7 + 1)) (.int .i64 ((m : Int) + k * 7 + 1 + 1)) (.int .i64 ((m : Int) + k * 7 + 1 + 1 + 1)) (.int .i64 ((m : Int) + k * 7 + 1 + 1 + 1 + 1)) (.int .i64 ((m : Int) + k * 7 + 1 + 1 + 1 + 1 + 1)) (.int .i64 ((m : Int) + k * 7 + 1 + 1 + 1 + 1 + 1 + 1)))
      rw [e0]
      clear e0 hb hrow H X hy0 hy1 hy2 hy3 hy4 hy5 hy6
      go_wp2
      go_roundw
      case rel => exact ⟨k + 1, by omega, by go_num, by go_num, .inr ⟨g, off, rfl, h1, h2, HR.out⟩, HB.out⟩
      case measure => simp [intOf]; omega
    · have e0 : k = n := by omega
      subst e0
      go_wp2
      go_ret
      exact ⟨rfl, hmine.congr (fun j hj => by rw [if_pos hj]), hb⟩

end Go.Proofs.YtkhphkfbjbhgaaaGreat
