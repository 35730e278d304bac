/-
  The program's faces of TakeLock, PassLock, WaitQueue. No conditions beyond that the lists can be read and that the sentinels lie where they were laid.
-/
import Derived.Test.YtachpoehejdpjaaDoorImpl6b
import Derived.Test.YtachpoehejdpjaaDoorImpl6c
import Derived.Test.YtachpoehejdpjaaDoorImpl6d
namespace Go.Proofs.YtachpoehejdpjaaDoor
open Go.RowKit
set_option maxRecDepth 100000

set_option maxHeartbeats 1000000 in
theorem refusedBy_any (v : Value) (q : Int) (w : World) (CO : ∀ W, Below w.heap.size w W → Calls Tryd.prog 43 #[v] W fun e w' => e = .returned (.int .i64 q) ∧ W = w') :
    Calls Tryd.prog 32 #[v] w fun e w' => e = .returned (.agg #[.int .i64 q, .bool false, .int .i64 0, .int .i64 0, .slice none 0 0, .slice none 0 0]) ∧ Below w.heap.size w w' := by
  obtain ⟨w1, hw1⟩ : ∃ w1, w1 = w.alloc (.cells #[.int .i64 0, .bool false, .int .i64 0, .int .i64 0, .slice none 0 0, .slice none 0 0] 30) := ⟨_, rfl⟩
  have K2 : Hid (w1.heap[w.heap.size]? = some (.cells #[.int .i64 0, .bool false, .int .i64 0, .int .i64 0, .slice none 0 0, .slice none 0 0] 30 (0, 0))) := by show _ = _; rw [hw1]; exact heap_alloc_new w _
  have B1 : Hid (Below w.heap.size w w1) := by rw [hw1]; exact below_new w _
  have CC := Lib.hid CO
  have HW1 := Lib.hid hw1
  clear hw1 CO
  go_enter Tryd.func32, Tryd.ntmps32
  go_upto_region 1 with (fail)
  rw [← HW1.out]
  clear HW1
  have RB := K2.out
  have r0 := cell_of_row w1 _ 0 _ _ _ RB; have f0 := frozen_of_row w1 _ 0 _ _ RB
  have r1 := cell_of_row w1 _ 1 _ _ _ RB; have f1 := frozen_of_row w1 _ 1 _ _ RB
  have r2 := cell_of_row w1 _ 2 _ _ _ RB; have f2 := frozen_of_row w1 _ 2 _ _ RB
  have r3 := cell_of_row w1 _ 3 _ _ _ RB; have f3 := frozen_of_row w1 _ 3 _ _ RB
  have r4 := cell_of_row w1 _ 4 _ _ _ RB; have f4 := frozen_of_row w1 _ 4 _ _ RB
  have r5 := cell_of_row w1 _ 5 _ _ _ RB; have f5 := frozen_of_row w1 _ 5 _ _ RB
  simp at r0 r1 r2 r3 r4 r5
  have HRB := Lib.hid RB
  clear RB
  go_wp2_with (go_at_call 43; refine (CC.out _ B1.out).mono ?_; rintro e9 w9 ⟨rfl, rfl⟩)
  refine bodyPost_ret (results_cell_row rfl _ _ _ _ _ (0, 0) _ rfl (set6_block HRB.out _ _ _ _ _ _) Tryd.underlying30 rfl (by kernel_rfl)) rfl ?_
  exact ⟨rfl, below_six B1.out (Nat.le_refl _) _ _ _ _ _ _⟩
set_option maxHeartbeats 1000000 in
theorem answerOf_ok (u0 : Int) (u1 : Bool) (u2 u3 : Int) (A : Option Addr) (n c : Nat) (B : Option Addr) (m d : Nat) (w : World) :
    Calls Tryd.prog 33 #[.agg #[.int .i64 u0, .bool u1, .int .i64 u2, .int .i64 u3, .slice A n c, .slice B m d], .nilIface] w fun e w' => e = .returned (.agg #[.int .i64 u0, .bool u1, .int .i64 u2, .int .i64 u3, .slice A n c, .slice B m d]) ∧ Below w.heap.size w w' := by
  obtain ⟨w1, hw1⟩ : ∃ w1, w1 = (w.alloc (.cells #[.int .i64 u0, .bool u1, .int .i64 u2, .int .i64 u3, .slice A n c, .slice B m d] 30)).alloc (.cells #[.int .i64 0, .bool false, .int .i64 0, .int .i64 0, .slice none 0 0, .slice none 0 0] 30) := ⟨_, rfl⟩
  have K1 : Hid (w1.heap[w.heap.size]? = some (.cells #[.int .i64 u0, .bool u1, .int .i64 u2, .int .i64 u3, .slice A n c, .slice B m d] 30 (0, 0))) := by show _ = _; rw [hw1]; exact heap_alloc2_old w _ _
  have K2 : Hid (w1.heap[w.heap.size + 1]? = some (.cells #[.int .i64 0, .bool false, .int .i64 0, .int .i64 0, .slice none 0 0, .slice none 0 0] 30 (0, 0))) := by show _ = _; rw [hw1]; exact heap_alloc2_new w _ _
  have B1 : Hid (Below w.heap.size w w1) := by rw [hw1]; exact (below_new w _).alloc (by simp) _
  have HW1 := Lib.hid hw1
  clear hw1
  go_enter Tryd.func33, Tryd.ntmps33
  go_upto_region 1 with (fail)
  rw [← HW1.out]
  clear HW1
  have s0 := cell_of_row w1 _ 0 _ _ _ K1.out; have s1 := cell_of_row w1 _ 1 _ _ _ K1.out; have s2 := cell_of_row w1 _ 2 _ _ _ K1.out; have s3 := cell_of_row w1 _ 3 _ _ _ K1.out; have s4 := cell_of_row w1 _ 4 _ _ _ K1.out; have s5 := cell_of_row w1 _ 5 _ _ _ K1.out
  simp at s0 s1 s2 s3 s4 s5
  have RB := K2.out
  have r0 := cell_of_row w1 _ 0 _ _ _ RB; have f0 := frozen_of_row w1 _ 0 _ _ RB
  have r1 := cell_of_row w1 _ 1 _ _ _ RB; have f1 := frozen_of_row w1 _ 1 _ _ RB
  have r2 := cell_of_row w1 _ 2 _ _ _ RB; have f2 := frozen_of_row w1 _ 2 _ _ RB
  have r3 := cell_of_row w1 _ 3 _ _ _ RB; have f3 := frozen_of_row w1 _ 3 _ _ RB
  have r4 := cell_of_row w1 _ 4 _ _ _ RB; have f4 := frozen_of_row w1 _ 4 _ _ RB
  have r5 := cell_of_row w1 _ 5 _ _ _ RB; have f5 := frozen_of_row w1 _ 5 _ _ RB
  simp at r0 r1 r2 r3 r4 r5
  have HRB := Lib.hid RB
  clear RB
  go_wp2
  refine bodyPost_ret (results_cell_row rfl _ _ _ _ _ (0, 0) _ rfl (set6_block HRB.out _ _ _ _ _ _) Tryd.underlying30 rfl (by kernel_rfl)) rfl ?_
  exact ⟨rfl, below_six B1.out (by omega) _ _ _ _ _ _⟩
set_option maxHeartbeats 1000000 in
theorem answerOf_err (u0 : Int) (u1 : Bool) (u2 u3 : Int) (A : Option Addr) (n c : Nat) (B : Option Addr) (m d : Nat) (a : Addr) (q : Int) (w : World)
    (CO : ∀ W, Below w.heap.size w W → Calls Tryd.prog 43 #[.iface 92 (.pointer (some a))] W fun e w' => e = .returned (.int .i64 q) ∧ W = w') :
    Calls Tryd.prog 33 #[.agg #[.int .i64 u0, .bool u1, .int .i64 u2, .int .i64 u3, .slice A n c, .slice B m d], .iface 92 (.pointer (some a))] w fun e w' => e = .returned (.agg #[.int .i64 q, .bool false, .int .i64 0, .int .i64 0, .slice none 0 0, .slice none 0 0]) ∧ Below w.heap.size w w' := by
  obtain ⟨w1, hw1⟩ : ∃ w1, w1 = (w.alloc (.cells #[.int .i64 u0, .bool u1, .int .i64 u2, .int .i64 u3, .slice A n c, .slice B m d] 30)).alloc (.cells #[.int .i64 0, .bool false, .int .i64 0, .int .i64 0, .slice none 0 0, .slice none 0 0] 30) := ⟨_, rfl⟩
  have K2 : Hid (w1.heap[w.heap.size + 1]? = some (.cells #[.int .i64 0, .bool false, .int .i64 0, .int .i64 0, .slice none 0 0, .slice none 0 0] 30 (0, 0))) := by show _ = _; rw [hw1]; exact heap_alloc2_new w _ _
  have B1 : Hid (Below w.heap.size w w1) := by rw [hw1]; exact (below_new w _).alloc (by simp) _
  have Z1 : Hid (w1.heap.size = w.heap.size + 2) := by show _ = _; rw [hw1]; simp
  have RF := Lib.hid (refusedBy_any (.iface 92 (.pointer (some a))) q w1 (fun W hW => CO W (B1.out.trans (hW.mono B1.out.size))))
  have HW1 := Lib.hid hw1
  clear hw1 CO
  go_enter Tryd.func33, Tryd.ntmps33
  go_upto_region 1 with (fail)
  rw [← HW1.out]
  clear HW1
  go_wp2_with
    (go_at_call 32
     refine RF.out.mono ?_
     rintro e9 w2 ⟨rfl, hb⟩
     have B2 := Lib.hid (B1.out.trans (hb.mono B1.out.size))
     have RB2 := Lib.hid ((hb.block (w.heap.size + 1) (by have := Z1.out; omega)).trans K2.out)
     clear hb
     have RB := RB2.out; have r0 := cell_of_row w2 _ 0 _ _ _ RB; have f0 := frozen_of_row w2 _ 0 _ _ RB; have r1 := cell_of_row w2 _ 1 _ _ _ RB; have f1 := frozen_of_row w2 _ 1 _ _ RB; have r2 := cell_of_row w2 _ 2 _ _ _ RB; have f2 := frozen_of_row w2 _ 2 _ _ RB; have r3 := cell_of_row w2 _ 3 _ _ _ RB; have f3 := frozen_of_row w2 _ 3 _ _ RB; have r4 := cell_of_row w2 _ 4 _ _ _ RB; have f4 := frozen_of_row w2 _ 4 _ _ RB; have r5 := cell_of_row w2 _ 5 _ _ _ RB; have f5 := frozen_of_row w2 _ 5 _ _ RB; simp at r0 r1 r2 r3 r4 r5; have HRB := Lib.hid RB; clear RB)
  refine bodyPost_ret (results_cell_row rfl _ _ _ _ _ (0, 0) _ rfl (set6_block HRB.out _ _ _ _ _ _) Tryd.underlying30 rfl (by kernel_rfl)) rfl ?_
  exact ⟨rfl, below_six B2.out (by omega) _ _ _ _ _ _⟩
theorem tk6_code (o : Int) (xs : List Int) (id : Int) : ((tk6 o xs id).1 ≠ 0 → tk6 o xs id = z6 (tk6 o xs id).1) ∧ five6 (tk6 o xs id).1 := by
  unfold tk6 five6
  split
  · exact ⟨fun _ => rfl, by simp [z6]⟩
  split
  · exact ⟨fun _ => rfl, by simp [z6]⟩
  split
  · exact ⟨fun h => absurd rfl h, by simp⟩
  · exact ⟨fun h => absurd rfl h, by simp⟩
theorem ps6_code (o : Int) (xs : List Int) (id : Int) : ((ps6 o xs id).1 ≠ 0 → ps6 o xs id = z6 (ps6 o xs id).1) ∧ five6 (ps6 o xs id).1 := by
  unfold ps6 five6
  split
  · exact ⟨fun _ => rfl, by simp [z6]⟩
  split
  · exact ⟨fun _ => rfl, by simp [z6]⟩
  split
  · exact ⟨fun h => absurd rfl h, by simp⟩
  · exact ⟨fun h => absurd rfl h, by simp⟩
theorem wt6_code (xs : List Int) (id : Int) : ((wt6 xs id).1 ≠ 0 → wt6 xs id = z6 (wt6 xs id).1) ∧ five6 (wt6 xs id).1 := by
  unfold wt6 five6
  split
  · exact ⟨fun _ => rfl, by simp [z6]⟩
  split
  · exact ⟨fun _ => rfl, by simp [z6]⟩
  · exact ⟨fun h => absurd rfl h, by simp⟩

set_option maxHeartbeats 4000000 in
theorem implTakeLock_any (E : E6) (lo hi : Nat) (A : Option Addr) (n c : Nat) (o : Int) (xs : List Int) (id : Int) (w : World) (hE : Errs E w) (hU : Unf E w) (hn : n ≤ 1048576) (hnc : n ≤ c) (ex : xs.length = n) (hA : A = none → c = 0) (h : Sl w lo hi A n (fun k => .int .i64 (gi xs k))) :
    Calls Tryd.prog 7 #[.agg #[.int .i64 o, .slice A n c], .int .i64 id] w (LA (take6 o xs id) w) := by
  obtain ⟨w1, hw1⟩ : ∃ w1, w1 = (w.alloc (.cells #[.int .i64 o, .slice A n c] 26)).alloc (.cells #[.int .i64 0, .bool false, .int .i64 0, .int .i64 0, .slice none 0 0, .slice none 0 0] 30) := ⟨_, rfl⟩
  have K1 : Hid (w1.heap[w.heap.size]? = some (.cells #[.int .i64 o, .slice A n c] 26 (0, 0))) := by show _ = _; rw [hw1]; exact heap_alloc2_old w _ _
  have K2 : Hid (w1.heap[w.heap.size + 1]? = some (.cells #[.int .i64 0, .bool false, .int .i64 0, .int .i64 0, .slice none 0 0, .slice none 0 0] 30 (0, 0))) := by show _ = _; rw [hw1]; exact heap_alloc2_new w _ _
  have B1 : Hid (Below w.heap.size w w1) := by rw [hw1]; exact (below_new w _).alloc (by simp) _
  have Z1 : Hid (w1.heap.size = w.heap.size + 2) := by show _ = _; rw [hw1]; simp
  have KS : Hid (∀ W, Below w1.heap.size w1 W → W.cell? ⟨w.heap.size, 0, none⟩ = some (.int .i64 o) ∧ W.cell? ⟨w.heap.size, 1, none⟩ = some (.slice A n c)) := fun W hW => by
    have j := (hW.block w.heap.size (by have := Z1.out; omega)).trans K1.out
    exact ⟨cell_of_row W _ 0 _ _ _ j, cell_of_row W _ 1 _ _ _ j⟩
  have KR : Hid (∀ W, Below w1.heap.size w1 W → W.heap[w.heap.size + 1]? = some (.cells #[.int .i64 0, .bool false, .int .i64 0, .int .i64 0, .slice none 0 0, .slice none 0 0] 30 (0, 0))) := fun W hW => (hW.block (w.heap.size + 1) (by have := Z1.out; omega)).trans K2.out
  have FIN : Hid (∀ W, Below w1.heap.size w1 W → Below w.heap.size w W) := fun W hW => B1.out.trans (hW.mono (by have := Z1.out; omega))
  have FE : Hid (Calls Tryd.prog 31 #[.agg #[.int .i64 o, .slice A n c]] w1 fun e w' => e = .returned (er6 E (lf6 o xs)) ∧ Below w1.heap.size w1 w') := by
    have hB := B1.out
    exact lockError_any E lo (min hi w.heap.size) A n c o xs w1 (hE.below hB) (hU.below hB) (by omega) hnc ex (h.lt.below hB (by omega))
  have IN : Hid (∀ W, Below w1.heap.size w1 W → Calls Tryd.prog 34 #[.agg #[.int .i64 o, .slice A n c], .int .i64 id] W (TA E (tk6 o xs id) W)) := fun W hW => by
    have hB := FIN.out W hW
    exact take_any E lo (min hi w.heap.size) A n c o xs id W (hE.below hB) hn hnc ex hA (h.lt.below hB (by omega))
  have CO : Hid (∀ q, (five6 q ∨ q = 9) → ∀ W, Below w1.heap.size w1 W → Calls Tryd.prog 43 #[er6 E q] W fun e w' => e = .returned (.int .i64 q) ∧ W = w') := fun q hq W hW =>
    codeOf_any E q hq W (hE.below (FIN.out W hW)) (hU.below (FIN.out W hW))
  have R0 : Hid (Below w1.heap.size w1 w1) := Below.refl _ _
  have HW1 := Lib.hid hw1
  clear hw1 hE hU hn hnc ex hA h
  obtain ⟨q0, q1⟩ := KS.out w1 R0.out
  go_enter Tryd.func7, Tryd.ntmps7
  go_upto_region 1 with (fail)
  rw [← HW1.out]
  clear HW1
  go_wp2_with fail
  refine FE.out.mono ?_
  rintro e9 w2 ⟨rfl, hb⟩
  have B2 := Lib.hid hb
  clear hb FE q0 q1
  obtain ⟨q, hq⟩ : ∃ q, q = lf6 o xs := ⟨_, rfl⟩
  rw [← hq]
  by_cases hz : q = 0
  rotate_left
  · have HA : Hid (take6 o xs id = z6 q) := by show _ = _; unfold take6; rw [if_pos (by rw [← hq]; exact hz), hq]
    have RF := Lib.hid (refusedBy_any (er6 E q) q w2 (fun W hW => CO.out q (by rw [hq]; exact lf6_six o xs) W (B2.out.trans (hW.mono B2.out.size))))
    have hv := er6_at E hz
    rw [hv] at RF ⊢
    clear hq hz hv
    go_wp2_with
      (go_at_call 32
       refine RF.out.mono ?_
       rintro e9 w3 ⟨rfl, hb⟩
       have B3 := Lib.hid (B2.out.trans (hb.mono B2.out.size))
       clear hb
       have RB := KR.out w3 B3.out; have r0 := cell_of_row w3 _ 0 _ _ _ RB; have f0 := frozen_of_row w3 _ 0 _ _ RB; have r1 := cell_of_row w3 _ 1 _ _ _ RB; have f1 := frozen_of_row w3 _ 1 _ _ RB; have r2 := cell_of_row w3 _ 2 _ _ _ RB; have f2 := frozen_of_row w3 _ 2 _ _ RB; have r3 := cell_of_row w3 _ 3 _ _ _ RB; have f3 := frozen_of_row w3 _ 3 _ _ RB; have r4 := cell_of_row w3 _ 4 _ _ _ RB; have f4 := frozen_of_row w3 _ 4 _ _ RB; have r5 := cell_of_row w3 _ 5 _ _ _ RB; have f5 := frozen_of_row w3 _ 5 _ _ RB; simp at r0 r1 r2 r3 r4 r5; have HRB := Lib.hid RB; clear RB)
    refine bodyPost_ret (results_cell_row rfl _ _ _ _ _ (0, 0) _ rfl (set6_block HRB.out _ _ _ _ _ _) Tryd.underlying30 rfl (by kernel_rfl)) rfl ?_
    rw [HA.out]
    exact la_box HRB.out (by omega) (FIN.out _ B3.out) (z6 (q)) (OR.void _ _) (OR.void _ _) (Apart.none_left _)
  have HA : Hid (take6 o xs id = tk6 o xs id) := by show _ = _; unfold take6; rw [if_neg (by rw [← hq]; simp [hz])]
  subst hz
  clear hq
  rw [er6_zero E]
  obtain ⟨q0, q1⟩ := KS.out w2 B2.out
  obtain ⟨CD1, CD2⟩ := tk6_code o xs id
  generalize tk6 o xs id = r at *
  obtain ⟨rq, rg, rn, ro, rl, rl2⟩ := r
  have CE : Hid (rq ≠ 0 → (rq, rg, rn, ro, rl, rl2) = z6 rq) := CD1
  have C5 : Hid (five6 rq) := CD2
  clear CD1 CD2
  go_wp2_with fail
  refine (IN.out _ B2.out).mono ?_
  rintro e9 w3 (⟨h0, A', c', B', d', rfl, ho, ho2, ap, hb⟩ | ⟨h0, u0, u1, u2, u3, A', n', c', B', m', d', rfl, hb⟩)
  · have h0 : rq = 0 := h0
    subst h0
    unfold LRV
    have O3 := Lib.hid ho; have P3 := Lib.hid ho2; have AP := Lib.hid ap
    have B3 := Lib.hid (B2.out.trans (hb.mono B2.out.size))
    have ZB := Lib.hid (show w.heap.size ≤ w2.heap.size by have := B2.out.size; have := Z1.out; omega)
    clear ho ho2 ap hb
    go_wp2_with fail
    refine (answerOf_ok _ _ _ _ _ _ _ _ _ _ _).mono ?_
    rintro e9 w4 ⟨rfl, hb⟩
    have O4 := Lib.hid (OR.mono (O3.out.below hb (Nat.le_refl _)) ZB.out)
    have P4 := Lib.hid (OR.mono (P3.out.below hb (Nat.le_refl _)) ZB.out)
    have B4 := Lib.hid (B3.out.trans (hb.mono B3.out.size))
    clear hb
    have RB := KR.out w4 B4.out
    have r0 := cell_of_row w4 _ 0 _ _ _ RB; have f0 := frozen_of_row w4 _ 0 _ _ RB
    have r1 := cell_of_row w4 _ 1 _ _ _ RB; have f1 := frozen_of_row w4 _ 1 _ _ RB
    have r2 := cell_of_row w4 _ 2 _ _ _ RB; have f2 := frozen_of_row w4 _ 2 _ _ RB
    have r3 := cell_of_row w4 _ 3 _ _ _ RB; have f3 := frozen_of_row w4 _ 3 _ _ RB
    have r4 := cell_of_row w4 _ 4 _ _ _ RB; have f4 := frozen_of_row w4 _ 4 _ _ RB
    have r5 := cell_of_row w4 _ 5 _ _ _ RB; have f5 := frozen_of_row w4 _ 5 _ _ RB
    simp at r0 r1 r2 r3 r4 r5
    have HRB := Lib.hid RB
    clear RB
    go_wp2
    refine bodyPost_ret (results_cell_row rfl _ _ _ _ _ (0, 0) _ rfl (set6_block HRB.out _ _ _ _ _ _) Tryd.underlying30 rfl (by kernel_rfl)) rfl ?_
    rw [HA.out]
    exact la_box HRB.out (by omega) (FIN.out _ B4.out) ((0, rg, rn, ro, rl, rl2)) (O4.out) (P4.out) (AP.out)
  · have h0 : rq ≠ 0 := h0
    have HC := Lib.hid (HA.out.trans (CE.out h0))
    have hv : er6 E (rq, rg, rn, ro, rl, rl2).1 = .iface 92 (.pointer (some (E.at rq))) := er6_at E h0
    have hv2 : er6 E rq = .iface 92 (.pointer (some (E.at rq))) := er6_at E h0
    have B3 := Lib.hid (B2.out.trans (hb.mono B2.out.size))
    have AE := Lib.hid (fun (u0 : Int) (u1 : Bool) (u2 u3 : Int) (A : Option Addr) (n c : Nat) (B : Option Addr) (m d : Nat) => answerOf_err u0 u1 u2 u3 A n c B m d (E.at rq) rq w3 (fun W hW => by
      have := CO.out rq (.inl C5.out) W (B3.out.trans (hW.mono B3.out.size))
      rw [hv2] at this
      exact this))
    rw [hv]
    clear hb hv hv2 h0
    go_wp2_with fail
    refine (AE.out _ _ _ _ _ _ _ _ _ _).mono ?_
    rintro e9 w4 ⟨rfl, hb⟩
    have B4 := Lib.hid (B3.out.trans (hb.mono B3.out.size))
    clear hb
    have RB := KR.out w4 B4.out
    have r0 := cell_of_row w4 _ 0 _ _ _ RB; have f0 := frozen_of_row w4 _ 0 _ _ RB
    have r1 := cell_of_row w4 _ 1 _ _ _ RB; have f1 := frozen_of_row w4 _ 1 _ _ RB
    have r2 := cell_of_row w4 _ 2 _ _ _ RB; have f2 := frozen_of_row w4 _ 2 _ _ RB
    have r3 := cell_of_row w4 _ 3 _ _ _ RB; have f3 := frozen_of_row w4 _ 3 _ _ RB
    have r4 := cell_of_row w4 _ 4 _ _ _ RB; have f4 := frozen_of_row w4 _ 4 _ _ RB
    have r5 := cell_of_row w4 _ 5 _ _ _ RB; have f5 := frozen_of_row w4 _ 5 _ _ RB
    simp at r0 r1 r2 r3 r4 r5
    have HRB := Lib.hid RB
    clear RB
    go_wp2
    refine bodyPost_ret (results_cell_row rfl _ _ _ _ _ (0, 0) _ rfl (set6_block HRB.out _ _ _ _ _ _) Tryd.underlying30 rfl (by kernel_rfl)) rfl ?_
    rw [HC.out]
    exact la_box HRB.out (by omega) (FIN.out _ B4.out) (z6 (rq)) (OR.void _ _) (OR.void _ _) (Apart.none_left _)


set_option maxHeartbeats 4000000 in
theorem implPassLock_any (E : E6) (lo hi : Nat) (A : Option Addr) (n c : Nat) (o : Int) (xs : List Int) (id : Int) (w : World) (hE : Errs E w) (hU : Unf E w) (hn : n ≤ 1048576) (hnc : n ≤ c) (ex : xs.length = n) (hA : A = none → c = 0) (h : Sl w lo hi A n (fun k => .int .i64 (gi xs k))) :
    Calls Tryd.prog 9 #[.agg #[.int .i64 o, .slice A n c], .int .i64 id] w (LA (pass6 o xs id) w) := by
  obtain ⟨w1, hw1⟩ : ∃ w1, w1 = (w.alloc (.cells #[.int .i64 o, .slice A n c] 26)).alloc (.cells #[.int .i64 0, .bool false, .int .i64 0, .int .i64 0, .slice none 0 0, .slice none 0 0] 30) := ⟨_, rfl⟩
  have K1 : Hid (w1.heap[w.heap.size]? = some (.cells #[.int .i64 o, .slice A n c] 26 (0, 0))) := by show _ = _; rw [hw1]; exact heap_alloc2_old w _ _
  have K2 : Hid (w1.heap[w.heap.size + 1]? = some (.cells #[.int .i64 0, .bool false, .int .i64 0, .int .i64 0, .slice none 0 0, .slice none 0 0] 30 (0, 0))) := by show _ = _; rw [hw1]; exact heap_alloc2_new w _ _
  have B1 : Hid (Below w.heap.size w w1) := by rw [hw1]; exact (below_new w _).alloc (by simp) _
  have Z1 : Hid (w1.heap.size = w.heap.size + 2) := by show _ = _; rw [hw1]; simp
  have KS : Hid (∀ W, Below w1.heap.size w1 W → W.cell? ⟨w.heap.size, 0, none⟩ = some (.int .i64 o) ∧ W.cell? ⟨w.heap.size, 1, none⟩ = some (.slice A n c)) := fun W hW => by
    have j := (hW.block w.heap.size (by have := Z1.out; omega)).trans K1.out
    exact ⟨cell_of_row W _ 0 _ _ _ j, cell_of_row W _ 1 _ _ _ j⟩
  have KR : Hid (∀ W, Below w1.heap.size w1 W → W.heap[w.heap.size + 1]? = some (.cells #[.int .i64 0, .bool false, .int .i64 0, .int .i64 0, .slice none 0 0, .slice none 0 0] 30 (0, 0))) := fun W hW => (hW.block (w.heap.size + 1) (by have := Z1.out; omega)).trans K2.out
  have FIN : Hid (∀ W, Below w1.heap.size w1 W → Below w.heap.size w W) := fun W hW => B1.out.trans (hW.mono (by have := Z1.out; omega))
  have FE : Hid (Calls Tryd.prog 31 #[.agg #[.int .i64 o, .slice A n c]] w1 fun e w' => e = .returned (er6 E (lf6 o xs)) ∧ Below w1.heap.size w1 w') := by
    have hB := B1.out
    exact lockError_any E lo (min hi w.heap.size) A n c o xs w1 (hE.below hB) (hU.below hB) (by omega) hnc ex (h.lt.below hB (by omega))
  have IN : Hid (∀ W, Below w1.heap.size w1 W → Calls Tryd.prog 35 #[.agg #[.int .i64 o, .slice A n c], .int .i64 id] W (TA E (ps6 o xs id) W)) := fun W hW => by
    have hB := FIN.out W hW
    exact pass_any E lo (min hi w.heap.size) A n c o xs id W (hE.below hB) hn hnc ex hA (h.lt.below hB (by omega))
  have CO : Hid (∀ q, (five6 q ∨ q = 9) → ∀ W, Below w1.heap.size w1 W → Calls Tryd.prog 43 #[er6 E q] W fun e w' => e = .returned (.int .i64 q) ∧ W = w') := fun q hq W hW =>
    codeOf_any E q hq W (hE.below (FIN.out W hW)) (hU.below (FIN.out W hW))
  have R0 : Hid (Below w1.heap.size w1 w1) := Below.refl _ _
  have HW1 := Lib.hid hw1
  clear hw1 hE hU hn hnc ex hA h
  obtain ⟨q0, q1⟩ := KS.out w1 R0.out
  go_enter Tryd.func9, Tryd.ntmps9
  go_upto_region 1 with (fail)
  rw [← HW1.out]
  clear HW1
  go_wp2_with fail
  refine FE.out.mono ?_
  rintro e9 w2 ⟨rfl, hb⟩
  have B2 := Lib.hid hb
  clear hb FE q0 q1
  obtain ⟨q, hq⟩ : ∃ q, q = lf6 o xs := ⟨_, rfl⟩
  rw [← hq]
  by_cases hz : q = 0
  rotate_left
  · have HA : Hid (pass6 o xs id = z6 q) := by show _ = _; unfold pass6; rw [if_pos (by rw [← hq]; exact hz), hq]
    have RF := Lib.hid (refusedBy_any (er6 E q) q w2 (fun W hW => CO.out q (by rw [hq]; exact lf6_six o xs) W (B2.out.trans (hW.mono B2.out.size))))
    have hv := er6_at E hz
    rw [hv] at RF ⊢
    clear hq hz hv
    go_wp2_with
      (go_at_call 32
       refine RF.out.mono ?_
       rintro e9 w3 ⟨rfl, hb⟩
       have B3 := Lib.hid (B2.out.trans (hb.mono B2.out.size))
       clear hb
       have RB := KR.out w3 B3.out; have r0 := cell_of_row w3 _ 0 _ _ _ RB; have f0 := frozen_of_row w3 _ 0 _ _ RB; have r1 := cell_of_row w3 _ 1 _ _ _ RB; have f1 := frozen_of_row w3 _ 1 _ _ RB; have r2 := cell_of_row w3 _ 2 _ _ _ RB; have f2 := frozen_of_row w3 _ 2 _ _ RB; have r3 := cell_of_row w3 _ 3 _ _ _ RB; have f3 := frozen_of_row w3 _ 3 _ _ RB; have r4 := cell_of_row w3 _ 4 _ _ _ RB; have f4 := frozen_of_row w3 _ 4 _ _ RB; have r5 := cell_of_row w3 _ 5 _ _ _ RB; have f5 := frozen_of_row w3 _ 5 _ _ RB; simp at r0 r1 r2 r3 r4 r5; have HRB := Lib.hid RB; clear RB)
    refine bodyPost_ret (results_cell_row rfl _ _ _ _ _ (0, 0) _ rfl (set6_block HRB.out _ _ _ _ _ _) Tryd.underlying30 rfl (by kernel_rfl)) rfl ?_
    rw [HA.out]
    exact la_box HRB.out (by omega) (FIN.out _ B3.out) (z6 (q)) (OR.void _ _) (OR.void _ _) (Apart.none_left _)
  have HA : Hid (pass6 o xs id = ps6 o xs id) := by show _ = _; unfold pass6; rw [if_neg (by rw [← hq]; simp [hz])]
  subst hz
  clear hq
  rw [er6_zero E]
  obtain ⟨q0, q1⟩ := KS.out w2 B2.out
  obtain ⟨CD1, CD2⟩ := ps6_code o xs id
  generalize ps6 o xs id = r at *
  obtain ⟨rq, rg, rn, ro, rl, rl2⟩ := r
  have CE : Hid (rq ≠ 0 → (rq, rg, rn, ro, rl, rl2) = z6 rq) := CD1
  have C5 : Hid (five6 rq) := CD2
  clear CD1 CD2
  go_wp2_with fail
  refine (IN.out _ B2.out).mono ?_
  rintro e9 w3 (⟨h0, A', c', B', d', rfl, ho, ho2, ap, hb⟩ | ⟨h0, u0, u1, u2, u3, A', n', c', B', m', d', rfl, hb⟩)
  · have h0 : rq = 0 := h0
    subst h0
    unfold LRV
    have O3 := Lib.hid ho; have P3 := Lib.hid ho2; have AP := Lib.hid ap
    have B3 := Lib.hid (B2.out.trans (hb.mono B2.out.size))
    have ZB := Lib.hid (show w.heap.size ≤ w2.heap.size by have := B2.out.size; have := Z1.out; omega)
    clear ho ho2 ap hb
    go_wp2_with fail
    refine (answerOf_ok _ _ _ _ _ _ _ _ _ _ _).mono ?_
    rintro e9 w4 ⟨rfl, hb⟩
    have O4 := Lib.hid (OR.mono (O3.out.below hb (Nat.le_refl _)) ZB.out)
    have P4 := Lib.hid (OR.mono (P3.out.below hb (Nat.le_refl _)) ZB.out)
    have B4 := Lib.hid (B3.out.trans (hb.mono B3.out.size))
    clear hb
    have RB := KR.out w4 B4.out
    have r0 := cell_of_row w4 _ 0 _ _ _ RB; have f0 := frozen_of_row w4 _ 0 _ _ RB
    have r1 := cell_of_row w4 _ 1 _ _ _ RB; have f1 := frozen_of_row w4 _ 1 _ _ RB
    have r2 := cell_of_row w4 _ 2 _ _ _ RB; have f2 := frozen_of_row w4 _ 2 _ _ RB
    have r3 := cell_of_row w4 _ 3 _ _ _ RB; have f3 := frozen_of_row w4 _ 3 _ _ RB
    have r4 := cell_of_row w4 _ 4 _ _ _ RB; have f4 := frozen_of_row w4 _ 4 _ _ RB
    have r5 := cell_of_row w4 _ 5 _ _ _ RB; have f5 := frozen_of_row w4 _ 5 _ _ RB
    simp at r0 r1 r2 r3 r4 r5
    have HRB := Lib.hid RB
    clear RB
    go_wp2
    refine bodyPost_ret (results_cell_row rfl _ _ _ _ _ (0, 0) _ rfl (set6_block HRB.out _ _ _ _ _ _) Tryd.underlying30 rfl (by kernel_rfl)) rfl ?_
    rw [HA.out]
    exact la_box HRB.out (by omega) (FIN.out _ B4.out) ((0, rg, rn, ro, rl, rl2)) (O4.out) (P4.out) (AP.out)
  · have h0 : rq ≠ 0 := h0
    have HC := Lib.hid (HA.out.trans (CE.out h0))
    have hv : er6 E (rq, rg, rn, ro, rl, rl2).1 = .iface 92 (.pointer (some (E.at rq))) := er6_at E h0
    have hv2 : er6 E rq = .iface 92 (.pointer (some (E.at rq))) := er6_at E h0
    have B3 := Lib.hid (B2.out.trans (hb.mono B2.out.size))
    have AE := Lib.hid (fun (u0 : Int) (u1 : Bool) (u2 u3 : Int) (A : Option Addr) (n c : Nat) (B : Option Addr) (m d : Nat) => answerOf_err u0 u1 u2 u3 A n c B m d (E.at rq) rq w3 (fun W hW => by
      have := CO.out rq (.inl C5.out) W (B3.out.trans (hW.mono B3.out.size))
      rw [hv2] at this
      exact this))
    rw [hv]
    clear hb hv hv2 h0
    go_wp2_with fail
    refine (AE.out _ _ _ _ _ _ _ _ _ _).mono ?_
    rintro e9 w4 ⟨rfl, hb⟩
    have B4 := Lib.hid (B3.out.trans (hb.mono B3.out.size))
    clear hb
    have RB := KR.out w4 B4.out
    have r0 := cell_of_row w4 _ 0 _ _ _ RB; have f0 := frozen_of_row w4 _ 0 _ _ RB
    have r1 := cell_of_row w4 _ 1 _ _ _ RB; have f1 := frozen_of_row w4 _ 1 _ _ RB
    have r2 := cell_of_row w4 _ 2 _ _ _ RB; have f2 := frozen_of_row w4 _ 2 _ _ RB
    have r3 := cell_of_row w4 _ 3 _ _ _ RB; have f3 := frozen_of_row w4 _ 3 _ _ RB
    have r4 := cell_of_row w4 _ 4 _ _ _ RB; have f4 := frozen_of_row w4 _ 4 _ _ RB
    have r5 := cell_of_row w4 _ 5 _ _ _ RB; have f5 := frozen_of_row w4 _ 5 _ _ RB
    simp at r0 r1 r2 r3 r4 r5
    have HRB := Lib.hid RB
    clear RB
    go_wp2
    refine bodyPost_ret (results_cell_row rfl _ _ _ _ _ (0, 0) _ rfl (set6_block HRB.out _ _ _ _ _ _) Tryd.underlying30 rfl (by kernel_rfl)) rfl ?_
    rw [HC.out]
    exact la_box HRB.out (by omega) (FIN.out _ B4.out) (z6 (rq)) (OR.void _ _) (OR.void _ _) (Apart.none_left _)


set_option maxHeartbeats 4000000 in
theorem implWaitQueue_any (E : E6) (lo hi : Nat) (A : Option Addr) (n c : Nat) (xs : List Int) (id : Int) (w : World) (hE : Errs E w) (hn : n ≤ 1048576) (hnc : n ≤ c) (ex : xs.length = n) (hA : A = none → c = 0) (h : Sl w lo hi A n (fun k => .int .i64 (gi xs k))) :
    Calls Tryd.prog 21 #[.slice A n c, .int .i64 id] w (LA (wait6 xs id) w) := by
  obtain ⟨w1, hw1⟩ : ∃ w1, w1 = w.alloc (.cells #[.int .i64 0, .bool false, .int .i64 0, .int .i64 0, .slice none 0 0, .slice none 0 0] 30) := ⟨_, rfl⟩
  have K2 : Hid (w1.heap[w.heap.size]? = some (.cells #[.int .i64 0, .bool false, .int .i64 0, .int .i64 0, .slice none 0 0, .slice none 0 0] 30 (0, 0))) := by show _ = _; rw [hw1]; exact heap_alloc_new w _
  have B1 : Hid (Below w.heap.size w w1) := by rw [hw1]; exact below_new w _
  have Z1 : Hid (w1.heap.size = w.heap.size + 1) := by show _ = _; rw [hw1]; simp
  have KR : Hid (∀ W, Below w1.heap.size w1 W → W.heap[w.heap.size]? = some (.cells #[.int .i64 0, .bool false, .int .i64 0, .int .i64 0, .slice none 0 0, .slice none 0 0] 30 (0, 0))) := fun W hW => (hW.block (w.heap.size) (by have := Z1.out; omega)).trans K2.out
  have FIN : Hid (∀ W, Below w1.heap.size w1 W → Below w.heap.size w W) := fun W hW => B1.out.trans (hW.mono (by have := Z1.out; omega))
  have FE : Hid (Calls Tryd.prog 50 #[.slice A n c] w1 fun e w' => e = .returned (er6 E (qf6 xs)) ∧ Below w1.heap.size w1 w') := by
    have hB := B1.out
    exact queueError_any E lo (min hi w.heap.size) A n c xs w1 (hE.below hB) (by omega) hnc ex (h.lt.below hB (by omega))
  have IN : Hid (∀ W, Below w1.heap.size w1 W → Calls Tryd.prog 51 #[.slice A n c, .int .i64 id] W (TA E (wt6 xs id) W)) := fun W hW => by
    have hB := FIN.out W hW
    exact wait_any E lo (min hi w.heap.size) A n c xs id W (hE.below hB) hn hnc ex hA (h.lt.below hB (by omega))
  have CO : Hid (∀ q, five6 q → ∀ W, Below w1.heap.size w1 W → Calls Tryd.prog 43 #[er6 E q] W fun e w' => e = .returned (.int .i64 q) ∧ W = w') := fun q hq W hW =>
    codeOf_five E q hq W (hE.below (FIN.out W hW))
  have R0 : Hid (Below w1.heap.size w1 w1) := Below.refl _ _
  have HW1 := Lib.hid hw1
  clear hw1 hE hn hnc ex hA h

  go_enter Tryd.func21, Tryd.ntmps21
  go_upto_region 1 with (fail)
  rw [← HW1.out]
  clear HW1
  go_wp2_with fail
  refine FE.out.mono ?_
  rintro e9 w2 ⟨rfl, hb⟩
  have B2 := Lib.hid hb
  clear hb FE
  obtain ⟨q, hq⟩ : ∃ q, q = qf6 xs := ⟨_, rfl⟩
  rw [← hq]
  by_cases hz : q = 0
  rotate_left
  · have HA : Hid (wait6 xs id = z6 q) := by show _ = _; unfold wait6; rw [if_pos (by rw [← hq]; exact hz), hq]
    have RF := Lib.hid (refusedBy_any (er6 E q) q w2 (fun W hW => CO.out q (by rw [hq]; exact qf6_five xs) W (B2.out.trans (hW.mono B2.out.size))))
    have hv := er6_at E hz
    rw [hv] at RF ⊢
    clear hq hz hv
    go_wp2_with
      (go_at_call 32
       refine RF.out.mono ?_
       rintro e9 w3 ⟨rfl, hb⟩
       have B3 := Lib.hid (B2.out.trans (hb.mono B2.out.size))
       clear hb
       have RB := KR.out w3 B3.out; have r0 := cell_of_row w3 _ 0 _ _ _ RB; have f0 := frozen_of_row w3 _ 0 _ _ RB; have r1 := cell_of_row w3 _ 1 _ _ _ RB; have f1 := frozen_of_row w3 _ 1 _ _ RB; have r2 := cell_of_row w3 _ 2 _ _ _ RB; have f2 := frozen_of_row w3 _ 2 _ _ RB; have r3 := cell_of_row w3 _ 3 _ _ _ RB; have f3 := frozen_of_row w3 _ 3 _ _ RB; have r4 := cell_of_row w3 _ 4 _ _ _ RB; have f4 := frozen_of_row w3 _ 4 _ _ RB; have r5 := cell_of_row w3 _ 5 _ _ _ RB; have f5 := frozen_of_row w3 _ 5 _ _ RB; simp at r0 r1 r2 r3 r4 r5; have HRB := Lib.hid RB; clear RB)
    refine bodyPost_ret (results_cell_row rfl _ _ _ _ _ (0, 0) _ rfl (set6_block HRB.out _ _ _ _ _ _) Tryd.underlying30 rfl (by kernel_rfl)) rfl ?_
    rw [HA.out]
    exact la_box HRB.out (Nat.le_refl _) (FIN.out _ B3.out) (z6 (q)) (OR.void _ _) (OR.void _ _) (Apart.none_left _)
  have HA : Hid (wait6 xs id = wt6 xs id) := by show _ = _; unfold wait6; rw [if_neg (by rw [← hq]; simp [hz])]
  subst hz
  clear hq
  rw [er6_zero E]

  obtain ⟨CD1, CD2⟩ := wt6_code xs id
  generalize wt6 xs id = r at *
  obtain ⟨rq, rg, rn, ro, rl, rl2⟩ := r
  have CE : Hid (rq ≠ 0 → (rq, rg, rn, ro, rl, rl2) = z6 rq) := CD1
  have C5 : Hid (five6 rq) := CD2
  clear CD1 CD2
  go_wp2_with fail
  refine (IN.out _ B2.out).mono ?_
  rintro e9 w3 (⟨h0, A', c', B', d', rfl, ho, ho2, ap, hb⟩ | ⟨h0, u0, u1, u2, u3, A', n', c', B', m', d', rfl, hb⟩)
  · have h0 : rq = 0 := h0
    subst h0
    unfold LRV
    have O3 := Lib.hid ho; have P3 := Lib.hid ho2; have AP := Lib.hid ap
    have B3 := Lib.hid (B2.out.trans (hb.mono B2.out.size))
    have ZB := Lib.hid (show w.heap.size ≤ w2.heap.size by have := B2.out.size; have := Z1.out; omega)
    clear ho ho2 ap hb
    go_wp2_with fail
    refine (answerOf_ok _ _ _ _ _ _ _ _ _ _ _).mono ?_
    rintro e9 w4 ⟨rfl, hb⟩
    have O4 := Lib.hid (OR.mono (O3.out.below hb (Nat.le_refl _)) ZB.out)
    have P4 := Lib.hid (OR.mono (P3.out.below hb (Nat.le_refl _)) ZB.out)
    have B4 := Lib.hid (B3.out.trans (hb.mono B3.out.size))
    clear hb
    have RB := KR.out w4 B4.out
    have r0 := cell_of_row w4 _ 0 _ _ _ RB; have f0 := frozen_of_row w4 _ 0 _ _ RB
    have r1 := cell_of_row w4 _ 1 _ _ _ RB; have f1 := frozen_of_row w4 _ 1 _ _ RB
    have r2 := cell_of_row w4 _ 2 _ _ _ RB; have f2 := frozen_of_row w4 _ 2 _ _ RB
    have r3 := cell_of_row w4 _ 3 _ _ _ RB; have f3 := frozen_of_row w4 _ 3 _ _ RB
    have r4 := cell_of_row w4 _ 4 _ _ _ RB; have f4 := frozen_of_row w4 _ 4 _ _ RB
    have r5 := cell_of_row w4 _ 5 _ _ _ RB; have f5 := frozen_of_row w4 _ 5 _ _ RB
    simp at r0 r1 r2 r3 r4 r5
    have HRB := Lib.hid RB
    clear RB
    go_wp2
    refine bodyPost_ret (results_cell_row rfl _ _ _ _ _ (0, 0) _ rfl (set6_block HRB.out _ _ _ _ _ _) Tryd.underlying30 rfl (by kernel_rfl)) rfl ?_
    rw [HA.out]
    exact la_box HRB.out (Nat.le_refl _) (FIN.out _ B4.out) ((0, rg, rn, ro, rl, rl2)) (O4.out) (P4.out) (AP.out)
  · have h0 : rq ≠ 0 := h0
    have HC := Lib.hid (HA.out.trans (CE.out h0))
    have hv : er6 E (rq, rg, rn, ro, rl, rl2).1 = .iface 92 (.pointer (some (E.at rq))) := er6_at E h0
    have hv2 : er6 E rq = .iface 92 (.pointer (some (E.at rq))) := er6_at E h0
    have B3 := Lib.hid (B2.out.trans (hb.mono B2.out.size))
    have AE := Lib.hid (fun (u0 : Int) (u1 : Bool) (u2 u3 : Int) (A : Option Addr) (n c : Nat) (B : Option Addr) (m d : Nat) => answerOf_err u0 u1 u2 u3 A n c B m d (E.at rq) rq w3 (fun W hW => by
      have := CO.out rq C5.out W (B3.out.trans (hW.mono B3.out.size))
      rw [hv2] at this
      exact this))
    rw [hv]
    clear hb hv hv2 h0
    go_wp2_with fail
    refine (AE.out _ _ _ _ _ _ _ _ _ _).mono ?_
    rintro e9 w4 ⟨rfl, hb⟩
    have B4 := Lib.hid (B3.out.trans (hb.mono B3.out.size))
    clear hb
    have RB := KR.out w4 B4.out
    have r0 := cell_of_row w4 _ 0 _ _ _ RB; have f0 := frozen_of_row w4 _ 0 _ _ RB
    have r1 := cell_of_row w4 _ 1 _ _ _ RB; have f1 := frozen_of_row w4 _ 1 _ _ RB
    have r2 := cell_of_row w4 _ 2 _ _ _ RB; have f2 := frozen_of_row w4 _ 2 _ _ RB
    have r3 := cell_of_row w4 _ 3 _ _ _ RB; have f3 := frozen_of_row w4 _ 3 _ _ RB
    have r4 := cell_of_row w4 _ 4 _ _ _ RB; have f4 := frozen_of_row w4 _ 4 _ _ RB
    have r5 := cell_of_row w4 _ 5 _ _ _ RB; have f5 := frozen_of_row w4 _ 5 _ _ RB
    simp at r0 r1 r2 r3 r4 r5
    have HRB := Lib.hid RB
    clear RB
    go_wp2
    refine bodyPost_ret (results_cell_row rfl _ _ _ _ _ (0, 0) _ rfl (set6_block HRB.out _ _ _ _ _ _) Tryd.underlying30 rfl (by kernel_rfl)) rfl ?_
    rw [HC.out]
    exact la_box HRB.out (Nat.le_refl _) (FIN.out _ B4.out) (z6 (rq)) (OR.void _ _) (OR.void _ _) (Apart.none_left _)


end Go.Proofs.YtachpoehejdpjaaDoor
