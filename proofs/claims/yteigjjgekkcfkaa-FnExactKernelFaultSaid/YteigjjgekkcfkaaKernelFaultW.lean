/-
  The walk of FnExactKernelFault: whatever the kernel that came in, it returns true, where the program's KernelFault answers as the model's.
-/
import Derived.Test.YteigjjgekkcfkaaKit3c
import Derived.Test.YteigjjgekkcfkaaSpec3c
namespace Go.Proofs.Yteigjjgekkcfkaa
open Go.RowKit
set_option maxRecDepth 100000

/-- a kernel copied into rows reads as it did -/
theorem kread_rows {w : World} {u1 u2 u3 n1 n2 n3 : Nat} {K : Ker} (hl : K.os.length = n1 ∧ K.al.length = n2 ∧ K.ac.length = n3 * 4) (r1 : Row w u1 0 2 n1 (fun k => .int .i64 (gi K.os k))) (r2 : Row w u2 0 4 n2 (fun k => .bool (gb K.al k)))
    (r3 : Row w u3 0 68 (n3 * 4) (fun k => .int .i64 (gi K.ac k))) {lo hi : Nat} (a1 : lo ≤ u1 ∧ u1 < hi) (a2 : lo ≤ u2 ∧ u2 < hi) (a3 : lo ≤ u3 ∧ u3 < hi) :
    KRead w lo hi (some ⟨u1, 0, none⟩) n1 (some ⟨u2, 0, none⟩) n2 (some ⟨u3, 0, none⟩) n3 K := ⟨hl, r1.sl a1.1 a1.2, r2.sl a2.1 a2.2, r3.sl a3.1 a3.2⟩

set_option maxHeartbeats 2000000 in
theorem walkKernelFault (IK : ∀ (lo hi : Nat) (A1 : Option Addr) (n1 c1 : Nat) (A2 : Option Addr) (n2 c2 : Nat) (A3 : Option Addr) (n3 c3 : Nat) (K : Ker) (w : World), n1 * 8 ≤ 140737488351232 → n3 * 32 ≤ 140737488351232 → KRead w lo hi A1 n1 A2 n2 A3 n3 K → (A1 = none → c1 = 0) →
      Calls Try.prog 12 #[.agg #[.slice A1 n1 c1, .slice A2 n2 c2, .slice A3 n3 c3, .int .i64 K.tick, .int .i64 K.run]] w fun e w' => e = .returned (.int .i64 (kf K)) ∧ Below w.heap.size w w')
    (A1 : Option Addr) (n1 c1 : Nat) (A2 : Option Addr) (n2 c2 : Nat) (A3 : Option Addr) (n3 c3 : Nat) (K : Ker) (w : World) (h : KRead w 0 w.heap.size A1 n1 A2 n2 A3 n3 K) (b1 : n1 ≤ 9223372036854775807) (b2 : n2 ≤ 9223372036854775807) (b3 : n3 ≤ 9223372036854775807) :
    Calls Try.prog 3 #[.agg #[.slice A1 n1 c1, .slice A2 n2 c2, .slice A3 n3 c3, .int .i64 K.tick, .int .i64 K.run]] w fun e w' => e = .returned (.bool true) ∧ Below w.heap.size w w' := by
  have B1 : Hid (Below w.heap.size w (w.alloc (.cells #[.slice A1 n1 c1, .slice A2 n2 c2, .slice A3 n3 c3, .int .i64 K.tick, .int .i64 K.run] 26))) := below_new w _
  have S1 : Hid ((w.alloc (.cells #[.slice A1 n1 c1, .slice A2 n2 c2, .slice A3 n3 c3, .int .i64 K.tick, .int .i64 K.run] 26)).heap.size = w.heap.size + 1) := by show _ = _; simp
  have K1 : Hid ((w.alloc (.cells #[.slice A1 n1 c1, .slice A2 n2 c2, .slice A3 n3 c3, .int .i64 K.tick, .int .i64 K.run] 26)).heap[w.heap.size]? = some (.cells #[.slice A1 n1 c1, .slice A2 n2 c2, .slice A3 n3 c3, .int .i64 K.tick, .int .i64 K.run] 26 (0, 0))) := heap_alloc_new w _
  have R := Lib.hid (h.below B1.out (Nat.le_refl _))
  have HL := Lib.hid h.1
  have QS : Hid (∀ W, Below (w.heap.size + 1) (w.alloc (.cells #[.slice A1 n1 c1, .slice A2 n2 c2, .slice A3 n3 c3, .int .i64 K.tick, .int .i64 K.run] 26)) W → W.cell? ⟨w.heap.size, 0, none⟩ = some (.slice A1 n1 c1) ∧ W.cell? ⟨w.heap.size, 1, none⟩ = some (.slice A2 n2 c2) ∧ W.cell? ⟨w.heap.size, 2, none⟩ = some (.slice A3 n3 c3) ∧ W.cell? ⟨w.heap.size, 3, none⟩ = some (.int .i64 K.tick) ∧ W.cell? ⟨w.heap.size, 4, none⟩ = some (.int .i64 K.run)) := fun W hB => by
    have k := (hB.block w.heap.size (by omega)).trans K1.out
    exact ⟨cell_of_row W _ 0 _ _ _ k, cell_of_row W _ 1 _ _ _ k, cell_of_row W _ 2 _ _ _ k, cell_of_row W _ 3 _ _ _ k, cell_of_row W _ 4 _ _ _ k⟩
  have R0 : Hid (Below (w.heap.size + 1) (w.alloc (.cells #[.slice A1 n1 c1, .slice A2 n2 c2, .slice A3 n3 c3, .int .i64 K.tick, .int .i64 K.run] 26)) (w.alloc (.cells #[.slice A1 n1 c1, .slice A2 n2 c2, .slice A3 n3 c3, .int .i64 K.tick, .int .i64 K.run] 26))) := Below.refl _ _
  have SZ := Lib.hid (szKernel_any A1 n1 c1 A2 n2 c2 A3 n3 c3 K.tick K.run 1048576 (w.alloc (.cells #[.slice A1 n1 c1, .slice A2 n2 c2, .slice A3 n3 c3, .int .i64 K.tick, .int .i64 K.run] 26)) (by omega) (by omega) b1 b2 b3)
  obtain ⟨q0, q1, q2, q3, q4⟩ := QS.out _ R0.out
  clear h
  by_cases hsz : szk 1048576 n1 n2 n3 < 0
  · go_enter Try.func3, Try.ntmps3
    go_wp2_with fail
    refine SZ.out.mono ?_
    rintro e w2 ⟨rfl, hb⟩
    have HB := Lib.hid (B1.out.trans (hb.mono (by have := S1.out; omega)))
    clear hb
    go_wp2
    go_ret
    exact ⟨rfl, HB.out⟩
  have hs0 : 0 ≤ szk 1048576 n1 n2 n3 := by omega
  have small : n1 + n2 + n3 ≤ 1048576 := by
    unfold szk at hsz
    split at hsz
    · omega
    · split at hsz
      · omega
      · split at hsz
        · omega
        · omega
  have TK : Hid (∀ W, Below (w.heap.size + 1) (w.alloc (.cells #[.slice A1 n1 c1, .slice A2 n2 c2, .slice A3 n3 c3, .int .i64 K.tick, .int .i64 K.run] 26)) W → Calls Try.prog 11 #[.agg #[.slice A1 n1 c1, .slice A2 n2 c2, .slice A3 n3 c3, .int .i64 K.tick, .int .i64 K.run]] W fun e w' => ∃ u1 u2 u3, e = .returned (.agg #[.slice (some ⟨u1, 0, none⟩) n1 n1, .slice (some ⟨u2, 0, none⟩) n2 n2, .slice (some ⟨u3, 0, none⟩) n3 n3, .int .i64 K.tick, .int .i64 K.run]) ∧
      (W.heap.size < u1 ∧ u1 < u2 ∧ u2 < u3 ∧ u3 < w'.heap.size) ∧ Row w' u1 0 2 n1 (fun k => .int .i64 (gi K.os k)) ∧ Row w' u2 0 4 n2 (fun k => .bool (gb K.al k)) ∧ Row w' u3 0 68 (n3 * 4) (fun k => .int .i64 (gi K.ac k)) ∧ Below W.heap.size W w') := fun W hW =>
    toKernel_any 0 w.heap.size A1 n1 c1 A2 n2 c2 A3 n3 c3 K.tick K.run K W (by omega) (by omega) (by omega) (R.out.below hW (by omega))
  go_enter Try.func3, Try.ntmps3
  go_wp2_with fail
  refine SZ.out.mono ?_
  rintro e w2 ⟨rfl, hb⟩
  have H2 := Lib.hid (R0.out.trans (hb.mono (by have := S1.out; omega)))
  clear hb q0 q1 q2 q3 q4 hsz
  obtain ⟨q0, q1, q2, q3, q4⟩ := QS.out _ H2.out
  -- the model on a copy
  go_wp2_with fail
  refine (TK.out _ H2.out).mono ?_
  rintro e w3 ⟨a1, a2, a3, rfl, ⟨z1, z2, z3, z4⟩, m1, m2, m3, hb⟩
  have sz := H2.out.size
  have H3 := Lib.hid (H2.out.trans (hb.mono (by have := S1.out; omega)))
  have KR := Lib.hid (kread_rows (lo := 0) (hi := w3.heap.size) HL.out m1 m2 m3 ⟨by omega, by omega⟩ ⟨by omega, by omega⟩ ⟨by omega, by omega⟩)
  clear hb q0 q1 q2 q3 q4 m1 m2 m3
  obtain ⟨q0, q1, q2, q3, q4⟩ := QS.out _ H3.out
  go_wp2_with fail
  refine (specKernelFault_any 0 w3.heap.size _ n1 n1 _ n2 n2 _ n3 n3 K.tick K.run K w3 (by omega) (by omega) KR.out rfl rfl).mono ?_
  rintro e w4 ⟨rfl, hb⟩
  have H4 := Lib.hid (H3.out.trans (hb.mono (by have := S1.out; have := H3.out.size; omega)))
  clear hb q0 q1 q2 q3 q4 KR z1 z2 z3 z4 sz
  obtain ⟨q0, q1, q2, q3, q4⟩ := QS.out _ H4.out
  -- the copy that the program gets
  go_wp2_with fail
  refine (TK.out _ H4.out).mono ?_
  rintro e w5 ⟨u1, u2, u3, rfl, ⟨z1, z2, z3, z4⟩, m1, m2, m3, hb⟩
  have sz4 := H4.out.size
  have s1 := S1.out
  have H5 := Lib.hid (H4.out.trans (hb.mono (by omega)))
  obtain ⟨w6, hw6⟩ : ∃ w6, w6 = w5.alloc (.cells #[.slice (some ⟨u1, 0, none⟩) n1 n1, .slice (some ⟨u2, 0, none⟩) n2 n2, .slice (some ⟨u3, 0, none⟩) n3 n3, .int .i64 K.tick, .int .i64 K.run] 31) := ⟨_, rfl⟩
  have s6 : w6.heap.size = w5.heap.size + 1 := by rw [hw6]; simp
  have H6 : Hid (Below (w.heap.size + 1) (w.alloc (.cells #[.slice A1 n1 c1, .slice A2 n2 c2, .slice A3 n3 c3, .int .i64 K.tick, .int .i64 K.run] 26)) w6) := by rw [hw6]; exact H5.out.alloc (by omega) _
  have N1 := Lib.hid (show Row w6 u1 0 2 n1 (fun k => .int .i64 (gi K.os k)) from by rw [hw6]; exact m1.alloc _)
  have N2 := Lib.hid (show Row w6 u2 0 4 n2 (fun k => .bool (gb K.al k)) from by rw [hw6]; exact m2.alloc _)
  have N3 := Lib.hid (show Row w6 u3 0 68 (n3 * 4) (fun k => .int .i64 (gi K.ac k)) from by rw [hw6]; exact m3.alloc _)
  have X6 : w6.heap[w5.heap.size]? = some (.cells #[.slice (some ⟨u1, 0, none⟩) n1 n1, .slice (some ⟨u2, 0, none⟩) n2 n2, .slice (some ⟨u3, 0, none⟩) n3 n3, .int .i64 K.tick, .int .i64 K.run] 31 (0, 0)) := by rw [hw6]; exact heap_alloc_new w5 _
  have KR6 := Lib.hid (kread_rows (lo := 0) (hi := w6.heap.size) HL.out N1.out N2.out N3.out ⟨by omega, by omega⟩ ⟨by omega, by omega⟩ ⟨by omega, by omega⟩)
  have HX6 := Lib.hid X6
  have HW6 := Lib.hid hw6
  obtain ⟨x5, hx5⟩ : ∃ x5, x5 = w5.heap.size := ⟨_, rfl⟩
  have U := Lib.hid (show w4.heap.size < u1 ∧ u1 < u2 ∧ u2 < u3 ∧ u3 < w5.heap.size ∧ w.heap.size + 1 ≤ w4.heap.size ∧ w6.heap.size = w5.heap.size + 1 from by omega)
  clear hb q0 q1 q2 q3 q4 m1 m2 m3 z1 z2 z3 z4 X6 hw6 s6 sz4 s1 hx5
  obtain ⟨q0, q1, q2, q3, q4⟩ := QS.out _ H6.out
  go_upto_region 7 with (fail)
  rw [← HW6.out]
  have e0 := cell_of_row w6 _ 0 _ _ _ HX6.out; have e1 := cell_of_row w6 _ 1 _ _ _ HX6.out; have e2 := cell_of_row w6 _ 2 _ _ _ HX6.out; have e3 := cell_of_row w6 _ 3 _ _ _ HX6.out; have e4 := cell_of_row w6 _ 4 _ _ _ HX6.out
  simp at e0 e1 e2 e3 e4
  go_wp2_with fail
  refine (IK 0 w6.heap.size _ n1 n1 _ n2 n2 _ n3 n3 K w6 (by omega) (by omega) KR6.out (fun h => by simp at h)).mono ?_
  rintro e w7 ⟨rfl, hb⟩
  have uu := U.out
  have H7 := Lib.hid (H6.out.trans (hb.mono (by omega)))
  have HX7 := Lib.hid ((hb.block w5.heap.size (by omega)).trans HX6.out)
  have KR7 := Lib.hid (KR6.out.below hb (Nat.le_refl _))
  have s7 := Lib.hid hb.size
  clear hb q0 q1 q2 q3 q4 e0 e1 e2 e3 e4 uu
  go_upto_region 10 with (fail)
  have S7 : Hid (w5.heap.size < w7.heap.size ∧ w.heap.size + 1 ≤ w7.heap.size) := by have := U.out; have := s7.out; show _ ∧ _; omega
  have KS : Hid (∀ W, Below w7.heap.size w7 W → (W.cell? ⟨w.heap.size, 0, none⟩ = some (.slice A1 n1 c1) ∧ W.cell? ⟨w.heap.size, 1, none⟩ = some (.slice A2 n2 c2) ∧ W.cell? ⟨w.heap.size, 2, none⟩ = some (.slice A3 n3 c3) ∧ W.cell? ⟨w.heap.size, 3, none⟩ = some (.int .i64 K.tick) ∧ W.cell? ⟨w.heap.size, 4, none⟩ = some (.int .i64 K.run) ∧ W.cell? ⟨w5.heap.size, 0, none⟩ = some (.slice (some ⟨u1, 0, none⟩) n1 n1) ∧ W.cell? ⟨w5.heap.size, 1, none⟩ = some (.slice (some ⟨u2, 0, none⟩) n2 n2) ∧ W.cell? ⟨w5.heap.size, 2, none⟩ = some (.slice (some ⟨u3, 0, none⟩) n3 n3) ∧ W.cell? ⟨w5.heap.size, 3, none⟩ = some (.int .i64 K.tick) ∧ W.cell? ⟨w5.heap.size, 4, none⟩ = some (.int .i64 K.run) ∧ Below w7.heap.size w7 W)) := fun W hB => by
    have k := (H7.out.trans (hB.mono S7.out.2))
    obtain ⟨q0, q1, q2, q3, q4⟩ := QS.out _ k
    have kx := (hB.block w5.heap.size S7.out.1).trans HX7.out
    exact ⟨q0, q1, q2, q3, q4, cell_of_row W _ 0 _ _ _ kx, cell_of_row W _ 1 _ _ _ kx, cell_of_row W _ 2 _ _ _ kx, cell_of_row W _ 3 _ _ _ kx, cell_of_row W _ 4 _ _ _ kx, hB⟩
  have PS : Hid (∀ W, (W.cell? ⟨w.heap.size, 0, none⟩ = some (.slice A1 n1 c1) ∧ W.cell? ⟨w.heap.size, 1, none⟩ = some (.slice A2 n2 c2) ∧ W.cell? ⟨w.heap.size, 2, none⟩ = some (.slice A3 n3 c3) ∧ W.cell? ⟨w.heap.size, 3, none⟩ = some (.int .i64 K.tick) ∧ W.cell? ⟨w.heap.size, 4, none⟩ = some (.int .i64 K.run) ∧ W.cell? ⟨w5.heap.size, 0, none⟩ = some (.slice (some ⟨u1, 0, none⟩) n1 n1) ∧ W.cell? ⟨w5.heap.size, 1, none⟩ = some (.slice (some ⟨u2, 0, none⟩) n2 n2) ∧ W.cell? ⟨w5.heap.size, 2, none⟩ = some (.slice (some ⟨u3, 0, none⟩) n3 n3) ∧ W.cell? ⟨w5.heap.size, 3, none⟩ = some (.int .i64 K.tick) ∧ W.cell? ⟨w5.heap.size, 4, none⟩ = some (.int .i64 K.run) ∧ Below w7.heap.size w7 W) → Below w7.heap.size w7 W) := fun W hh => hh.2.2.2.2.2.2.2.2.2.2
  have AT : Hid (∀ W, Below w7.heap.size w7 W → Calls Try.prog 11 #[.agg #[.slice A1 n1 c1, .slice A2 n2 c2, .slice A3 n3 c3, .int .i64 K.tick, .int .i64 K.run]] W fun e w' => ∃ y1 y2 y3, e = .returned (.agg #[.slice (some ⟨y1, 0, none⟩) n1 n1, .slice (some ⟨y2, 0, none⟩) n2 n2, .slice (some ⟨y3, 0, none⟩) n3 n3, .int .i64 K.tick, .int .i64 K.run]) ∧ KRead w' 0 w'.heap.size (some ⟨y1, 0, none⟩) n1 (some ⟨y2, 0, none⟩) n2 (some ⟨y3, 0, none⟩) n3 K ∧ Below w7.heap.size w7 w') := fun W hB =>
    (TK.out W (H7.out.trans (hB.mono S7.out.2))).mono fun e w' ⟨y1, y2, y3, he, ⟨z1, z2, z3, z4⟩, m1, m2, m3, hb⟩ => ⟨y1, y2, y3, he, kread_rows HL.out m1 m2 m3 ⟨by omega, by omega⟩ ⟨by omega, by omega⟩ ⟨by omega, by omega⟩, hB.trans (hb.mono hB.size)⟩
  have AE : Hid (∀ W y1 y2 y3, Below w7.heap.size w7 W → KRead W 0 W.heap.size (some ⟨y1, 0, none⟩) n1 (some ⟨y2, 0, none⟩) n2 (some ⟨y3, 0, none⟩) n3 K → Calls Try.prog 13 #[.agg #[.slice (some ⟨u1, 0, none⟩) n1 n1, .slice (some ⟨u2, 0, none⟩) n2 n2, .slice (some ⟨u3, 0, none⟩) n3 n3, .int .i64 K.tick, .int .i64 K.run], .agg #[.slice (some ⟨y1, 0, none⟩) n1 n1, .slice (some ⟨y2, 0, none⟩) n2 n2, .slice (some ⟨y3, 0, none⟩) n3 n3, .int .i64 K.tick, .int .i64 K.run]] W fun e w' => e = .returned (.bool true) ∧ Below w7.heap.size w7 w') := fun W y1 y2 y3 hB hk =>
    (eqKernel_same 0 w6.heap.size 0 W.heap.size _ n1 n1 _ n2 n2 _ n3 n3 _ n1 _ n2 _ n3 K.tick K.run K W (by omega) (by omega) (by omega) (KR7.out.below hB s7.out) hk).mono fun e w' ⟨h1, h2⟩ => ⟨h1, hB.trans (h2.mono hB.size)⟩
  clear SZ TK IK
  go_region_held3 (fun W => (W.cell? ⟨w.heap.size, 0, none⟩ = some (.slice A1 n1 c1) ∧ W.cell? ⟨w.heap.size, 1, none⟩ = some (.slice A2 n2 c2) ∧ W.cell? ⟨w.heap.size, 2, none⟩ = some (.slice A3 n3 c3) ∧ W.cell? ⟨w.heap.size, 3, none⟩ = some (.int .i64 K.tick) ∧ W.cell? ⟨w.heap.size, 4, none⟩ = some (.int .i64 K.run) ∧ W.cell? ⟨w5.heap.size, 0, none⟩ = some (.slice (some ⟨u1, 0, none⟩) n1 n1) ∧ W.cell? ⟨w5.heap.size, 1, none⟩ = some (.slice (some ⟨u2, 0, none⟩) n2 n2) ∧ W.cell? ⟨w5.heap.size, 2, none⟩ = some (.slice (some ⟨u3, 0, none⟩) n3 n3) ∧ W.cell? ⟨w5.heap.size, 3, none⟩ = some (.int .i64 K.tick) ∧ W.cell? ⟨w5.heap.size, 4, none⟩ = some (.int .i64 K.run) ∧ Below w7.heap.size w7 W)) (first | with_reducible exact KS.out _ (by assumption) | exact KS.out _ (Below.drew (Below.refl _ _))) (first | (go_at_call 11; with_reducible refine (AT.out _ (PS.out _ (by assumption))).mono ?_; rintro e9 w8 ⟨y1, y2, y3, rfl, hkr, hb9⟩) | (go_at_call 13; with_reducible refine (AE.out _ _ _ _ (PS.out _ (by assumption)) (by assumption)).mono ?_; rintro e9 w9 ⟨rfl, hb9⟩))
  have HF := Lib.hid (B1.out.trans ((H7.out.trans (hb9.mono S7.out.2)).mono (by omega)))
  go_wp2
  go_ret
  exact ⟨rfl, HF.out⟩

end Go.Proofs.Yteigjjgekkcfkaa
