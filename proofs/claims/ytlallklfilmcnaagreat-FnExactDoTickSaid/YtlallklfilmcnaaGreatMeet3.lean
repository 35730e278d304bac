/-
  How the program meets calls: a code that is refused, or the kernel that the model makes. No conditions beyond that the call has no fault.
-/
import Derived.Test.YtlallklfilmcnaaGreatPanic3
import Derived.Test.YtlallklfilmcnaaGreatImpl1c
import Derived.Test.YtlallklfilmcnaaGreatImpl1d
import Derived.Deep.RegionHeld3
import Derived.BigRegion
import Derived.RegionDies
namespace Go.Proofs.YtlallklfilmcnaaGreat
open Go.RowKit
set_option maxRecDepth 100000

theorem Below.undrew {B : Nat} {a w : World} (h : Below B a.drew w) : Below B a w := ⟨h.os, h.tape, h.output, h.size, h.block⟩
/-- what a step makes of a machine: a refusal, or a kernel -/
def TA (r : Int × Ker) (g : Nat) (p : Kp) (q : Value) (w : World) (e : Ending) (w' : World) : Prop :=
  (r.1 ≠ 0 ∧ e = .panicked [{ v := .iface 181 (.int .i64 r.1), recovered := false }] ∧ Kept [g, p.g2, p.g3] w w') ∨
  (r.1 = 0 ∧ e = .returned (.tuple #[]) ∧ ∃ p' : Kp, MB w' g p' r.2 q ∧ (p'.g1 = p.g1 ∨ (w.heap.size ≤ p'.g1 ∧ p'.g1 < w'.heap.size)) ∧ p'.g2 = p.g2 ∧ p'.g3 = p.g3 ∧ Kept [g, p.g2, p.g3] w w')

set_option maxHeartbeats 4000000 in
theorem meetCreate_any {g : Nat} {p : Kp} {K : Ker} {q : Value} {w : World} (h : MB w g p K q) (kk : Int) (ee : Nat) (s to : Int) (he : ee < 4) :
    Calls Tryz.prog 117 #[.pointer (some ⟨g, 0, none⟩), .agg #[.int .i64 kk, .int .i64 (ee : Int), .int .i64 s, .int .i64 to]] w (TA (call3 K 1 ee s to) g p q w) := by
  obtain ⟨w1, hW1⟩ : ∃ w1, w1 = w.alloc (.cells #[.int .i64 kk, .int .i64 (ee : Int), .int .i64 s, .int .i64 to] 30) := ⟨_, rfl⟩
  have k1 : w1.heap[w.heap.size]? = some (.cells #[.int .i64 kk, .int .i64 (ee : Int), .int .i64 s, .int .i64 to] 30 (0, 0)) := by rw [hW1]; exact heap_alloc_new w _
  have X1 : Hid (Kept [] w w1) := by rw [hW1]; exact (Kept.refl _ _).alloc _
  have S1 : Hid (w1.heap.size = w.heap.size + 1) := by show _ = _; rw [hW1]; simp
  have M1 := Lib.hid (h.kept X1.out (by simp) (by simp) (by simp) (by simp))
  have c0 := cell_of_row w1 _ 0 _ _ _ k1
  have c1 := cell_of_row w1 _ 1 _ _ _ k1
  have c2 := cell_of_row w1 _ 2 _ _ _ k1
  have c3 := cell_of_row w1 _ 3 _ _ _ k1
  simp at c0 c1 c2 c3
  have hge : (0 : Int) ≤ (ee : Int) := by omega
  have hle : (ee : Int) < 4 := by omega
  have HL := Lib.hid h.lt
  obtain ⟨q0, q1, q2, q3, q4⟩ := M1.out.cells
  obtain ⟨o2, hA2, hR2⟩ := M1.out.alive
  rw [hA2] at q1
  have a0 := hR2.cell (k := ee) he
  have y0 := hR2.frozen (o2 + ee)
  have HA2 := Lib.hid hA2; have HR2 := Lib.hid hR2
  have TN : Hid ((ee : Int).toNat = ee) := Int.toNat_natCast ee
  clear h
  rcases ha : gb K.al ee with _ | _
  · have HC : Hid (call3 K 1 ee s to = (0, { K with al := K.al.set ee true })) := by show _ = _; unfold call3; rw [if_pos rfl, TN.out, if_neg (by rw [ha]; decide)]
    rw [ha] at a0
    clear hR2 hA2 ha
    go_enter Tryz.func117, Tryz.ntmps117
    go_upto_region 1 with (fail)
    rw [← hW1]
    clear hW1
    go_region_held3 (fun W => (W.cell? ⟨g, 1, none⟩ = some (.slice (some ⟨p.g2, o2, none⟩) 4 p.c2) ∧ W.cell? ⟨w.heap.size, 1, none⟩ = some (.int .i64 (ee : Int)) ∧ W.cell? ⟨p.g2, o2 + ee, none⟩ = some (.bool false))) (first | assumption | exact ⟨q1, c1, a0⟩) (first | (go_at_call 86; refine (refuseIf_no _ _).mono ?_; rintro e9 w9 ⟨rfl, rfl⟩))
    go_upto_region 2 with (fail)
    go_region
    go_end0
    rw [HC.out]
    exact .inr ⟨rfl, rfl, p, ((M1.out.setAlive HA2.out he true).drew).drew, .inl rfl, rfl, rfl, ((((X1.out.mono (by simp)).setCell (p := ⟨p.g2, o2 + ee, none⟩) (by simp) _).drew).drew)⟩
  · have HC : Hid (call3 K 1 ee s to = (6, K)) := by show _ = _; unfold call3; rw [if_pos rfl, TN.out, if_pos ha]
    rw [ha] at a0
    clear hR2 hA2 ha
    go_enter Tryz.func117, Tryz.ntmps117
    go_upto_region 1 with (fail)
    rw [← hW1]
    clear hW1
    refine wp_region_held_drew (S := fun W => (W.cell? ⟨g, 1, none⟩ = some (.slice (some ⟨p.g2, o2, none⟩) 4 p.c2) ∧ W.cell? ⟨w.heap.size, 1, none⟩ = some (.int .i64 (ee : Int)) ∧ W.cell? ⟨p.g2, o2 + ee, none⟩ = some (.bool true))) (by kernel_rfl) (⟨q1, c1, a0⟩) (fun hHeld => ?_)
    refine wpAnyH_take (i := 0) (oi := _) (v := ?_) rfl (by kernel_rfl) (by kernel_rfl) (by kernel_rfl) (fun _ _ _ h => h) (Or.inl ⟨by rfl, ?_⟩) hHeld ?_
    rotate_left
    · (intro w hSw; (try dsimp only at hSw); go_simp; try with_reducible rfl)
    try simp only [Act.put, List.setIfInBounds_toArray, List.set_cons_zero, List.set_cons_succ]
    refine wpAnyH_take (i := 1) (oi := _) (v := ?_) rfl (by kernel_rfl) (by kernel_rfl) (by kernel_rfl) (fun _ _ _ h => h) (Or.inl ⟨by rfl, ?_⟩) hHeld ?_
    rotate_left
    · (intro w hSw; (try dsimp only at hSw); go_simp; try with_reducible rfl)
    try simp only [Act.put, List.setIfInBounds_toArray, List.set_cons_zero, List.set_cons_succ]
    refine wpAnyH_take (i := 2) (oi := _) (v := ?_) rfl (by kernel_rfl) (by kernel_rfl) (by kernel_rfl) (fun _ _ _ h => h) (Or.inl ⟨by rfl, ?_⟩) hHeld ?_
    rotate_left
    · (intro w hSw; (try dsimp only at hSw); go_simp; try with_reducible rfl)
    try simp only [Act.put, List.setIfInBounds_toArray, List.set_cons_zero, List.set_cons_succ]
    refine wpAnyH_take (i := 3) (oi := _) (v := ?_) rfl (by kernel_rfl) (by kernel_rfl) (by kernel_rfl) (fun _ _ _ h => h) (Or.inl ⟨by rfl, ?_⟩) hHeld ?_
    rotate_left
    · (intro w hSw; (try dsimp only at hSw); go_simp; try with_reducible rfl)
    try simp only [Act.put, List.setIfInBounds_toArray, List.set_cons_zero, List.set_cons_succ]
    refine wpAnyH_take (i := 4) (oi := _) (v := ?_) rfl (by kernel_rfl) (by kernel_rfl) (by kernel_rfl) (fun _ _ _ h => h) (Or.inl ⟨by rfl, ?_⟩) hHeld ?_
    rotate_left
    · (intro w hSw; (try dsimp only at hSw); go_simp; try with_reducible rfl)
    try simp only [Act.put, List.setIfInBounds_toArray, List.set_cons_zero, List.set_cons_succ]
    refine wpAnyH_take (i := 5) (oi := _) (v := ?_) rfl (by kernel_rfl) (by kernel_rfl) (by kernel_rfl) (fun _ _ _ h => h) (Or.inl ⟨by rfl, ?_⟩) hHeld ?_
    rotate_left
    · (intro w hSw; (try dsimp only at hSw); go_simp; try with_reducible rfl)
    try simp only [Act.put, List.setIfInBounds_toArray, List.set_cons_zero, List.set_cons_succ]
    refine wpAnyH_take (i := 6) (oi := _) (v := ?_) rfl (by kernel_rfl) (by kernel_rfl) (by kernel_rfl) (fun _ _ _ h => h) (Or.inl ⟨by rfl, ?_⟩) hHeld ?_
    rotate_left
    · (intro w hSw; (try dsimp only at hSw); go_simp; try with_reducible rfl)
    try simp only [Act.put, List.setIfInBounds_toArray, List.set_cons_zero, List.set_cons_succ]
    refine wpAnyH_take (i := 7) (oi := _) (v := ?_) rfl (by kernel_rfl) (by kernel_rfl) (by kernel_rfl) (fun _ _ _ h => h) (Or.inl ⟨by rfl, ?_⟩) hHeld ?_
    rotate_left
    · (intro w hSw; (try dsimp only at hSw); go_simp; try with_reducible rfl)
    try simp only [Act.put, List.setIfInBounds_toArray, List.set_cons_zero, List.set_cons_succ]
    refine wpAnyH_take (i := 8) (oi := _) (v := ?_) rfl (by kernel_rfl) (by kernel_rfl) (by kernel_rfl) (fun _ _ _ h => h) (Or.inl ⟨by rfl, ?_⟩) hHeld ?_
    rotate_left
    · (intro w hSw; (try dsimp only at hSw); go_simp; try with_reducible rfl)
    try simp only [Act.put, List.setIfInBounds_toArray, List.set_cons_zero, List.set_cons_succ]
    refine wpAnyH_ready (rs := [9]) (by kernel_rfl) (by simp) ?_
    refine AllReadyH.cons (o := _) rfl (fun K hK => ?_) AllReadyH.nil
    go_simp
    refine (refuseIf_yes _ _).mono ?_; rintro e9 w9 ⟨rfl, rfl⟩
    go_wp2_with fail
    exact ⟨rfl, by rw [HC.out]; exact .inl ⟨by show (6 : Int) ≠ 0; decide, rfl, (X1.out.mono (by simp)).drew⟩⟩

end Go.Proofs.YtlallklfilmcnaaGreat
