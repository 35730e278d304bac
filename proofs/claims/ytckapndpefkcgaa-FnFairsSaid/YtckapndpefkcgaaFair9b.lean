/-
  IsFair, the program's. No conditions beyond that the schedule can be read.
-/
import Derived.Test.YtckapndpefkcgaaTk
import Derived.Test.YtckapndpefkcgaaFair9
import Derived.Test.YtckapndpefkcgaaImpl5i
set_option maxHeartbeats 1000000
namespace Go.Proofs.Ytckapndpefkcgaa
open List renaming getElem_toArray → zz1, getElem_cons_succ → zz2, getElem_cons_zero → zz3, setIfInBounds_toArray → zz4, set_cons_zero → zz5, set_cons_succ → zz6
open Go.RowKit
set_option maxRecDepth 100000

set_option maxHeartbeats 8000000 in
theorem isFair1_any {b : Int} {xs : List R3} {t : Int} {n : Nat} {ids hs : List Int} (FX : FF9 b xs t n ids hs) (I : Option Addr) (m d : Nat) (lo hi gp ga gn gm : Nat) (all id tk ps : Int) (ha : 0 ≤ all ∧ all ≤ 50) (hk : 1 ≤ tk ∧ tk ≤ 10) (W : World) (hm : ids.length = m) (hI : Sl W lo hi I m (fun k => .int .i64 (gi ids k))) (hhi : hi ≤ W.heap.size)
    (hc : ∀ V, Below W.heap.size W V → V.cell? ⟨gp, 1, none⟩ = some (.slice I m d) ∧ V.cell? ⟨ga, 0, none⟩ = some (.int .i64 all) ∧ V.cell? ⟨gn, 0, none⟩ = some (.int .i64 t) ∧ V.cell? ⟨gm, 0, none⟩ = some (.int .i64 (n : Int))) :
    Calls Try.prog 78 #[.agg #[.int .i64 id, .int .i64 tk, .int .i64 ps], .pointer (some ⟨gp, 0, none⟩), .pointer (some ⟨ga, 0, none⟩), .pointer (some ⟨gn, 0, none⟩), .pointer (some ⟨gm, 0, none⟩)] W fun e w' => e = .returned (.bool (far9 (tmi ids id ids.length) all t tk n)) ∧ Below W.heap.size W w' := by
  obtain ⟨w1, hw1⟩ : ∃ w1, w1 = W.alloc (.cells #[.int .i64 id, .int .i64 tk, .int .i64 ps] 52) := ⟨_, rfl⟩
  have K1 : w1.heap[W.heap.size]? = some (.cells #[.int .i64 id, .int .i64 tk, .int .i64 ps] 52 (0, 0)) := by rw [hw1]; exact heap_alloc_new W _
  have B1 : Hid (Below W.heap.size W w1) := by rw [hw1]; exact below_new W _
  have Z1 : Hid (w1.heap.size = W.heap.size + 1) := by show _ = _; rw [hw1]; simp
  have KH : Hid (∀ V, Below w1.heap.size w1 V → (V.cell? ⟨gp, 1, none⟩ = some (.slice I m d) ∧ V.cell? ⟨ga, 0, none⟩ = some (.int .i64 all) ∧ V.cell? ⟨gn, 0, none⟩ = some (.int .i64 t) ∧ V.cell? ⟨gm, 0, none⟩ = some (.int .i64 (n : Int)) ∧ V.cell? ⟨W.heap.size, 0, none⟩ = some (.int .i64 id) ∧ V.cell? ⟨W.heap.size, 1, none⟩ = some (.int .i64 tk)) ∧ Below w1.heap.size w1 V) := fun V hV => by
    have bv := B1.out.trans (hV.mono B1.out.size)
    have j := (hV.block W.heap.size (by have := Z1.out; omega)).trans K1
    obtain ⟨c1, c2, c3, c4⟩ := hc V bv
    exact ⟨⟨c1, c2, c3, c4, cell_of_row V _ 0 _ _ _ j, cell_of_row V _ 1 _ _ _ j⟩, hV⟩
  have TM : Hid (∀ V, Below w1.heap.size w1 V → Calls Try.prog 79 #[.slice I m d, .int .i64 id] V fun e w' => e = .returned (.int .i64 (tmi ids id ids.length : Int)) ∧ Below w1.heap.size w1 w') := fun V hV =>
    (timesIn_any lo hi I m d ids id V (by have := FX.il; omega) hm (hI.below (B1.out.trans (hV.mono B1.out.size)) hhi)).mono fun e w' hh => ⟨hh.1, hV.trans (hh.2.mono hV.size)⟩
  have TL := tmi_le ids id ids.length
  generalize tmi ids id ids.length = tm at *
  obtain ⟨⟨p1, p1'⟩, ⟨p2, p2'⟩, ⟨p3, p3'⟩, ⟨p4, p4'⟩⟩ := ff9_num FX tm TL tk hk all ha
  have FD : Hid (far9 tm all t tk n = decide ((tm : Int) * all - t * tk > all + max ((n : Int) - 2) 0 * tk ∨ (tm : Int) * all - t * tk < -(all + max ((n : Int) - 2) 0 * tk))) := rfl
  obtain ⟨m1, hm1⟩ : ∃ m1, m1 = (tm : Int) * all := ⟨_, rfl⟩
  obtain ⟨m2, hm2'⟩ : ∃ m2, m2 = t * tk := ⟨_, rfl⟩
  have wm1 : IntKind.i64.wrap ((tm : Int) * all) = m1 := by rw [← hm1] at p1 p1'; rw [← hm1]; exact IntWalk.i64_in _ (by omega)
  have wm2 : IntKind.i64.wrap (t * tk) = m2 := by rw [← hm2'] at p2 p2'; rw [← hm2']; exact IntWalk.i64_in _ (by omega)
  rw [← hm1] at p1 p1' FD
  rw [← hm2'] at p2 p2' FD
  have wd : IntKind.i64.wrap (m1 - m2) = m1 - m2 := IntWalk.i64_in _ (by omega)
  have wdn : IntKind.i64.wrap (-(m1 - m2)) = -(m1 - m2) := IntWalk.i64_in _ (by omega)
  have n5 := FX.n5
  have wn2 : IntKind.i64.wrap ((n : Int) - 2) = (n : Int) - 2 := IntWalk.i64_in _ (by omega)
  obtain ⟨mx, hmx⟩ : ∃ mx, mx = max ((n : Int) - 2) 0 := ⟨_, rfl⟩
  rw [← hmx] at p3 p3' p4 p4' FD
  obtain ⟨m4, hm4⟩ : ∃ m4, m4 = mx * tk := ⟨_, rfl⟩
  have wm4 : IntKind.i64.wrap (mx * tk) = m4 := by rw [← hm4] at p4 p4'; rw [← hm4]; exact IntWalk.i64_in _ (by omega)
  rw [← hm4] at p4 p4' FD
  have wm5 : IntKind.i64.wrap (all + m4) = all + m4 := IntWalk.i64_in _ (by omega)
  have HMX := Lib.hid hmx
  have HW1 := Lib.hid hw1
  clear hw1 K1 hc hI hm1 hm2' hmx hm4 FX
  go_enter Try.func78, Try.ntmps78
  go_upto_region 1 with (fail)
  rw [← HW1.out]
  clear HW1
  refine wp_region_held_drew (S := fun V => (V.cell? ⟨gp, 1, none⟩ = some (.slice I m d) ∧ V.cell? ⟨ga, 0, none⟩ = some (.int .i64 all) ∧ V.cell? ⟨gn, 0, none⟩ = some (.int .i64 t) ∧ V.cell? ⟨gm, 0, none⟩ = some (.int .i64 (n : Int)) ∧ V.cell? ⟨W.heap.size, 0, none⟩ = some (.int .i64 id) ∧ V.cell? ⟨W.heap.size, 1, none⟩ = some (.int .i64 tk)) ∧ Below w1.heap.size w1 V) (by kernel_rfl) (KH.out _ (Below.drew (Below.refl _ _))) (fun hHeld => ?_)
  obtain ⟨v0, hv0⟩ : ∃ v0, v0 = w1.drew := ⟨_, rfl⟩
  have BL0 : Hid (Below w1.heap.size w1 v0) := by rw [hv0]; exact Below.drew (Below.refl _ _)
  rw [← hv0] at hHeld ⊢
  clear hv0
  refine tkH 0 ?_ rfl ?_ hHeld ?_; rotate_left; (intro w hSw; (try dsimp only at hSw); go_simp; try with_reducible rfl); try simp only [Act.put, zz1, zz2, zz3, zz4, zz5, zz6]
  refine tkH 1 ?_ rfl ?_ hHeld ?_; rotate_left; (intro w hSw; (try dsimp only at hSw); go_simp; try with_reducible rfl); try simp only [Act.put, zz1, zz2, zz3, zz4, zz5, zz6]
  refine tkH 2 ?_ rfl ?_ hHeld ?_; rotate_left; (intro w hSw; (try dsimp only at hSw); go_simp; try with_reducible rfl); try simp only [Act.put, zz1, zz2, zz3, zz4, zz5, zz6]
  refine tkH 3 ?_ rfl ?_ hHeld ?_; rotate_left; (intro w hSw; (try dsimp only at hSw); go_simp; try with_reducible rfl); try simp only [Act.put, zz1, zz2, zz3, zz4, zz5, zz6]
  refine tkH 5 ?_ rfl ?_ hHeld ?_; rotate_left; (intro w hSw; (try dsimp only at hSw); go_simp; try with_reducible rfl); try simp only [Act.put, zz1, zz2, zz3, zz4, zz5, zz6]
  refine tkH 7 ?_ rfl ?_ hHeld ?_; rotate_left; (intro w hSw; (try dsimp only at hSw); go_simp; try with_reducible rfl); try simp only [Act.put, zz1, zz2, zz3, zz4, zz5, zz6]
  refine tkH 8 ?_ rfl ?_ hHeld ?_; rotate_left; (intro w hSw; (try dsimp only at hSw); go_simp; try with_reducible rfl); try simp only [Act.put, zz1, zz2, zz3, zz4, zz5, zz6]
  refine tkH 9 ?_ rfl ?_ hHeld ?_; rotate_left; (intro w hSw; (try dsimp only at hSw); go_simp; try with_reducible rfl); try simp only [Act.put, zz1, zz2, zz3, zz4, zz5, zz6]
  refine tkH 10 ?_ rfl ?_ hHeld ?_; rotate_left; (intro w hSw; (try dsimp only at hSw); go_simp; try with_reducible rfl); try simp only [Act.put, zz1, zz2, zz3, zz4, zz5, zz6]
  refine wpAnyH_ready (rs := [4]) (by kernel_rfl) (by simp) ?_
  refine AllReadyH.cons (o := _) rfl (fun K0 hK0 => ?_) AllReadyH.nil
  go_simp
  refine (TM.out _ (by go_split_ands; assumption)).mono ?_
  rintro e9 w9 ⟨rfl, hb9⟩
  go_wp2_with fail
  have HB9 := Lib.hid hb9
  refine hK0.out _ _ (KH.out _ hb9) (fun hHeld => ?_)
  clear hK0 K0
  try simp only [Act.put, zz1, zz2, zz3, zz4, zz5, zz6]
  refine tkH 6 ?_ rfl ?_ hHeld ?_; rotate_left; (intro w hSw; (try dsimp only at hSw); go_simp; try with_reducible rfl); try simp only [Act.put, zz1, zz2, zz3, zz4, zz5, zz6]
  refine tkH 11 ?_ rfl ?_ hHeld ?_; rotate_left; (intro w hSw; (try dsimp only at hSw); go_simp; try with_reducible rfl); try simp only [Act.put, zz1, zz2, zz3, zz4, zz5, zz6]
  refine tkH 12 ?_ rfl ?_ hHeld ?_; rotate_left; (intro w hSw; (try dsimp only at hSw); go_simp; try with_reducible rfl); try simp only [Act.put, zz1, zz2, zz3, zz4, zz5, zz6]
  refine wpAnyH_done (by kernel_rfl) ?_ _
  obtain ⟨⟨c1, c2, c3, c4, c5, c6⟩, _⟩ := KH.out _ HB9.out
  clear hHeld
  have wz : IntKind.i64.wrap 0 = 0 := IntWalk.i64_in _ (by omega)
  have wza : IntKind.i64.wrap all = all := IntWalk.i64_in _ (by omega)
  have FIN : Hid (Below W.heap.size W w9) := B1.out.trans (HB9.out.mono B1.out.size)
  clear hb9
  by_cases hx : (n : Int) - 2 > 0
  · have hmx : mx = (n : Int) - 2 := by have := HMX.out; omega
    subst hmx
    go_wp2_with fail
    all_goals go_ret
    all_goals first
      | exact ⟨ret_bool (by rw [FD.out]; exact decide_eq_decide.2 ⟨fun hh => by omega, fun hh => by omega⟩), FIN.out⟩
      | (exfalso; omega)
  · have hmx : mx = 0 := by have := HMX.out; omega
    subst hmx
    have hm0 : m4 = 0 := by rw [Int.zero_mul, wz] at wm4; exact wm4.symm
    subst hm0
    have EW : Hid (wrap64 (all + wrap64 0) = all) := by show _ = _; unfold wrap64; omega
    have EW2 : Hid ((n : Int) - 2 = 0 → wrap64 (all + wrap64 (((n : Int) - 2) * tk)) = all) := fun hh => by rw [hh, Int.zero_mul]; unfold wrap64; omega
    clear wm4 wm5 wz wza
    go_wp2_with fail
    all_goals go_ret
    all_goals first
      | exact ⟨ret_bool (by rw [FD.out, EW.out]; exact decide_eq_decide.2 ⟨fun hh => by omega, fun hh => by omega⟩), FIN.out⟩
      | exact ⟨ret_bool (by rw [FD.out, EW2.out (by omega)]; exact decide_eq_decide.2 ⟨fun hh => by omega, fun hh => by omega⟩), FIN.out⟩
      | (exfalso; omega)

end Go.Proofs.Ytckapndpefkcgaa
