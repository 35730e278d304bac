/-
  The program's RunKernel. No conditions beyond that the events can be read.
-/
import Derived.Deep.RegionLaw
import Derived.Test.YtckapndpefkcgaaGreatDo3
import Derived.Test.YtckapndpefkcgaaGreatDo3t
import Derived.Test.YtckapndpefkcgaaGreatMath3r
import Derived.Test.YtckapndpefkcgaaGreatLoop3
import Derived.Test.YtckapndpefkcgaaGreatSpec3z
import Derived.Test.YtckapndpefkcgaaGreatNew3
import Derived.Test.YtckapndpefkcgaaGreatCountN9
import Derived.Test.YtckapndpefkcgaaGreatU8s
set_option maxHeartbeats 1000000

namespace Go.Proofs.YtckapndpefkcgaaGreat
open List renaming getElem_toArray → zz1, getElem_cons_succ → zz2, getElem_cons_zero → zz3, setIfInBounds_toArray → zz4, set_cons_zero → zz5, set_cons_succ → zz6
open Go.RowKit
set_option maxRecDepth 100000

theorem kans_at {w W : World} {gb : Nat} {q q' : Int} {K K' : Ker} {ns : List Int} {v1 v2 v3 v6 : Value} (h : AnsAt w gb q K ns W) (hx : W.heap[gb]? = some (.cells #[.int .i64 q', v1, v2, v3, .int .i64 K'.tick, .int .i64 K'.run, v6] 61 (0, 0))) :
    KAns q K ns w (.returned (.agg #[.int .i64 q', v1, v2, v3, .int .i64 K'.tick, .int .i64 K'.run, v6])) W := by
  obtain ⟨p, h1, ho, _, _, hb⟩ := h
  rw [h1] at hx
  injection hx with hx
  injection hx with hx _ _
  exact ⟨p, by rw [← hx]; rfl, ho, hb⟩
theorem run_ek1 (f g : Nat) (w : World) : (Instr.field 143 (.agg #[.func (.func f) #[] #[], .func (.func g) #[] #[]]) 1).run Tryz.prog w = .ok (.func (.func g) #[] #[]) w := by kernel_rfl

set_option maxHeartbeats 4000000 in
theorem meetTick_any (lo hi : Nat) (A1 : Option Addr) (n1 c1 : Nat) (A2 : Option Addr) (n2 c2 : Nat) (A3 : Option Addr) (n3 c3 : Nat) (K : Ker) (k a b c e s t : Int) (w : World) (hn1 : n1 * 8 ≤ 140737488351232) (h : KRead w lo hi A1 n1 A2 n2 A3 n3 K) :
    Calls Tryz.prog 137 #[.agg #[.slice A1 n1 c1, .slice A2 n2 c2, .slice A3 n3 c3, .int .i64 K.tick, .int .i64 K.run], .agg #[.int .i64 k, .int .i64 a, .int .i64 b, .int .i64 c, .int .i64 e, .int .i64 s, .int .i64 t]] w (KAns (dotick K a b).1 (dotick K a b).2.1 (dotick K a b).2.2 w) := by
  obtain ⟨w3, hw3⟩ : ∃ w3, w3 = ((w.alloc (.cells #[.slice A1 n1 c1, .slice A2 n2 c2, .slice A3 n3 c3, .int .i64 K.tick, .int .i64 K.run] 39)).alloc (.cells #[.int .i64 k, .int .i64 a, .int .i64 b, .int .i64 c, .int .i64 e, .int .i64 s, .int .i64 t] 57)).alloc (.cells #[.int .i64 0, .slice none 0 0, .slice none 0 0, .slice none 0 0, .int .i64 0, .int .i64 0, .slice none 0 0] 61) := ⟨_, rfl⟩
  have k1 : w3.heap[w.heap.size]? = some (.cells #[.slice A1 n1 c1, .slice A2 n2 c2, .slice A3 n3 c3, .int .i64 K.tick, .int .i64 K.run] 39 (0, 0)) := by rw [hw3]; exact (Below.heap_alloc _ _ _ (by simp; omega)).trans (heap_alloc2_old w _ _)
  have k2 : w3.heap[w.heap.size + 1]? = some (.cells #[.int .i64 k, .int .i64 a, .int .i64 b, .int .i64 c, .int .i64 e, .int .i64 s, .int .i64 t] 57 (0, 0)) := by rw [hw3]; exact (Below.heap_alloc _ _ _ (by simp)).trans (heap_alloc2_new w _ _)
  have k3 : w3.heap[w.heap.size + 2]? = some (.cells #[.int .i64 0, .slice none 0 0, .slice none 0 0, .slice none 0 0, .int .i64 0, .int .i64 0, .slice none 0 0] 61 (0, 0)) := by
    rw [hw3]
    have := heap_alloc_new ((w.alloc (.cells #[.slice A1 n1 c1, .slice A2 n2 c2, .slice A3 n3 c3, .int .i64 K.tick, .int .i64 K.run] 39)).alloc (.cells #[.int .i64 k, .int .i64 a, .int .i64 b, .int .i64 c, .int .i64 e, .int .i64 s, .int .i64 t] 57)) (.cells #[.int .i64 0, .slice none 0 0, .slice none 0 0, .slice none 0 0, .int .i64 0, .int .i64 0, .slice none 0 0] 61)
    rwa [World.size_alloc, World.size_alloc] at this
  have B3 : Hid (Below w.heap.size w w3) := by rw [hw3]; exact ((below_new w _).alloc (by simp) _).alloc (by simp; omega) _
  have Z3 : Hid (w3.heap.size = w.heap.size + 3) := by show _ = _; rw [hw3]; simp
  have R3 := Lib.hid (h.lt.below B3.out (Nat.min_le_right _ _))
  have K1 := Lib.hid k1; have K2 := Lib.hid k2; have KZ := Lib.hid k3
  have X3 : Hid (BoxN 7 (w.heap.size + 1 + 1) 61 ((w.alloc (.cells #[.slice A1 n1 c1, .slice A2 n2 c2, .slice A3 n3 c3, .int .i64 K.tick, .int .i64 K.run] 39)).alloc (.cells #[.int .i64 k, .int .i64 a, .int .i64 b, .int .i64 c, .int .i64 e, .int .i64 s, .int .i64 t] 57)) w3) := by
    show BoxN _ _ _ _ _
    have := BoxN.new ((w.alloc (.cells #[.slice A1 n1 c1, .slice A2 n2 c2, .slice A3 n3 c3, .int .i64 K.tick, .int .i64 K.run] 39)).alloc (.cells #[.int .i64 k, .int .i64 a, .int .i64 b, .int .i64 c, .int .i64 e, .int .i64 s, .int .i64 t] 57)) #[.int .i64 0, .slice none 0 0, .slice none 0 0, .slice none 0 0, .int .i64 0, .int .i64 0, .slice none 0 0] 61
    rw [World.size_alloc, World.size_alloc] at this
    rw [hw3]
    exact this
  have HW3 := Lib.hid hw3
  clear h hw3 k1 k2 k3
  have KS2 : Hid (∀ W : World, W.heap[w.heap.size]? = some (.cells #[.slice A1 n1 c1, .slice A2 n2 c2, .slice A3 n3 c3, .int .i64 K.tick, .int .i64 K.run] 39 (0, 0)) → W.heap[w.heap.size + 1]? = some (.cells #[.int .i64 k, .int .i64 a, .int .i64 b, .int .i64 c, .int .i64 e, .int .i64 s, .int .i64 t] 57 (0, 0)) → (W.cell? ⟨w.heap.size, 0, none⟩ = some (.slice A1 n1 c1) ∧ W.cell? ⟨w.heap.size, 1, none⟩ = some (.slice A2 n2 c2) ∧ W.cell? ⟨w.heap.size, 2, none⟩ = some (.slice A3 n3 c3) ∧ W.cell? ⟨w.heap.size, 3, none⟩ = some (.int .i64 K.tick) ∧ W.cell? ⟨w.heap.size, 4, none⟩ = some (.int .i64 K.run)) ∧ (W.cell? ⟨w.heap.size + 1, 1, none⟩ = some (.int .i64 a) ∧ W.cell? ⟨w.heap.size + 1, 2, none⟩ = some (.int .i64 b))) := fun W j j2 =>
    ⟨⟨cell_of_row W _ 0 _ _ _ j, cell_of_row W _ 1 _ _ _ j, cell_of_row W _ 2 _ _ _ j, cell_of_row W _ 3 _ _ _ j, cell_of_row W _ 4 _ _ _ j⟩, cell_of_row W _ 1 _ _ _ j2, cell_of_row W _ 2 _ _ _ j2⟩
  have DT : Hid (∀ W, Below w3.heap.size w3 W → Calls Tryz.prog 24 #[.agg #[.slice A1 n1 c1, .slice A2 n2 c2, .slice A3 n3 c3, .int .i64 K.tick, .int .i64 K.run], .agg #[.int .i64 a, .int .i64 b]] W (KAns (dotick K a b).1 (dotick K a b).2.1 (dotick K a b).2.2 W)) := fun W hW =>
    implDoTick_any lo (min hi w.heap.size) A1 n1 c1 A2 n2 c2 A3 n3 c3 K a b W hn1 (R3.out.below hW (by have := Z3.out; omega))
  generalize (dotick K a b).1 = dq at *
  generalize (dotick K a b).2.1 = dK at *
  generalize (dotick K a b).2.2 = dN at *
  go_enter Tryz.func137, Tryz.ntmps137
  go_upto_region 1 with (fail)
  rw [← HW3.out]
  clear HW3
  obtain ⟨⟨q0, q1, q2, q3, q4⟩, e1', e2'⟩ := KS2.out _ K1.out K2.out
  go_wp2_with fail
  refine (DT.out _ (Below.refl _ _)).mono ?_
  rintro e9 w4 ⟨pr, rfl, ho, hb⟩
  have X4 := X3.out.below hb
  have FA := Lib.hid (kans_on (w := w) (q := dq) ho hb X4 (by have := Z3.out; omega) (by omega) B3.out)
  have cc := fun j (hj : j < 7) => X4.cell j hj
  have ff := fun j => X4.frozen j
  have c0 := cc 0 (by omega); have c1' := cc 1 (by omega); have c2' := cc 2 (by omega); have c3' := cc 3 (by omega); have c4 := cc 4 (by omega); have c5 := cc 5 (by omega); have c6 := cc 6 (by omega)
  have f0 := ff 0; have f1 := ff 1; have f2 := ff 2; have f3 := ff 3; have f4 := ff 4; have f5 := ff 5; have f6 := ff 6
  unfold Rp.val
  clear cc ff X4 ho hb DT q0 q1 q2 q3 q4 e1' e2'
  go_wp2
  exact bodyPost_ret (results_cell_row rfl _ _ (w.heap.size + 1 + 1) _ _ (0, 0) _ rfl FA.out.1 Tryz.underlying61 rfl (by kernel_rfl)) rfl FA.out.2

set_option maxHeartbeats 4000000 in
theorem meetCall_any (lo hi : Nat) (A1 : Option Addr) (n1 c1 : Nat) (A2 : Option Addr) (n2 c2 : Nat) (A3 : Option Addr) (n3 c3 : Nat) (K : Ker) (k a b c e s t : Int) (w : World) (hn1 : n1 * 8 ≤ 140737488351232) (h : KRead w lo hi A1 n1 A2 n2 A3 n3 K) :
    Calls Tryz.prog 139 #[.agg #[.slice A1 n1 c1, .slice A2 n2 c2, .slice A3 n3 c3, .int .i64 K.tick, .int .i64 K.run], .agg #[.int .i64 k, .int .i64 a, .int .i64 b, .int .i64 c, .int .i64 e, .int .i64 s, .int .i64 t]] w (KAns (docall K c e s t).1 (docall K c e s t).2 [] w) := by
  obtain ⟨w3, hw3⟩ : ∃ w3, w3 = ((w.alloc (.cells #[.slice A1 n1 c1, .slice A2 n2 c2, .slice A3 n3 c3, .int .i64 K.tick, .int .i64 K.run] 39)).alloc (.cells #[.int .i64 k, .int .i64 a, .int .i64 b, .int .i64 c, .int .i64 e, .int .i64 s, .int .i64 t] 57)).alloc (.cells #[.int .i64 0, .slice none 0 0, .slice none 0 0, .slice none 0 0, .int .i64 0, .int .i64 0, .slice none 0 0] 61) := ⟨_, rfl⟩
  have k1 : w3.heap[w.heap.size]? = some (.cells #[.slice A1 n1 c1, .slice A2 n2 c2, .slice A3 n3 c3, .int .i64 K.tick, .int .i64 K.run] 39 (0, 0)) := by rw [hw3]; exact (Below.heap_alloc _ _ _ (by simp; omega)).trans (heap_alloc2_old w _ _)
  have k2 : w3.heap[w.heap.size + 1]? = some (.cells #[.int .i64 k, .int .i64 a, .int .i64 b, .int .i64 c, .int .i64 e, .int .i64 s, .int .i64 t] 57 (0, 0)) := by rw [hw3]; exact (Below.heap_alloc _ _ _ (by simp)).trans (heap_alloc2_new w _ _)
  have k3 : w3.heap[w.heap.size + 2]? = some (.cells #[.int .i64 0, .slice none 0 0, .slice none 0 0, .slice none 0 0, .int .i64 0, .int .i64 0, .slice none 0 0] 61 (0, 0)) := by
    rw [hw3]
    have := heap_alloc_new ((w.alloc (.cells #[.slice A1 n1 c1, .slice A2 n2 c2, .slice A3 n3 c3, .int .i64 K.tick, .int .i64 K.run] 39)).alloc (.cells #[.int .i64 k, .int .i64 a, .int .i64 b, .int .i64 c, .int .i64 e, .int .i64 s, .int .i64 t] 57)) (.cells #[.int .i64 0, .slice none 0 0, .slice none 0 0, .slice none 0 0, .int .i64 0, .int .i64 0, .slice none 0 0] 61)
    rwa [World.size_alloc, World.size_alloc] at this
  have B3 : Hid (Below w.heap.size w w3) := by rw [hw3]; exact ((below_new w _).alloc (by simp) _).alloc (by simp; omega) _
  have Z3 : Hid (w3.heap.size = w.heap.size + 3) := by show _ = _; rw [hw3]; simp
  have R3 := Lib.hid (h.lt.below B3.out (Nat.min_le_right _ _))
  have K1 := Lib.hid k1; have K2 := Lib.hid k2; have KZ := Lib.hid k3
  have X3 : Hid (BoxN 7 (w.heap.size + 1 + 1) 61 ((w.alloc (.cells #[.slice A1 n1 c1, .slice A2 n2 c2, .slice A3 n3 c3, .int .i64 K.tick, .int .i64 K.run] 39)).alloc (.cells #[.int .i64 k, .int .i64 a, .int .i64 b, .int .i64 c, .int .i64 e, .int .i64 s, .int .i64 t] 57)) w3) := by
    show BoxN _ _ _ _ _
    have := BoxN.new ((w.alloc (.cells #[.slice A1 n1 c1, .slice A2 n2 c2, .slice A3 n3 c3, .int .i64 K.tick, .int .i64 K.run] 39)).alloc (.cells #[.int .i64 k, .int .i64 a, .int .i64 b, .int .i64 c, .int .i64 e, .int .i64 s, .int .i64 t] 57)) #[.int .i64 0, .slice none 0 0, .slice none 0 0, .slice none 0 0, .int .i64 0, .int .i64 0, .slice none 0 0] 61
    rw [World.size_alloc, World.size_alloc] at this
    rw [hw3]
    exact this
  have HW3 := Lib.hid hw3
  clear h hw3 k1 k2 k3
  have KS2 : Hid (∀ W : World, W.heap[w.heap.size]? = some (.cells #[.slice A1 n1 c1, .slice A2 n2 c2, .slice A3 n3 c3, .int .i64 K.tick, .int .i64 K.run] 39 (0, 0)) → W.heap[w.heap.size + 1]? = some (.cells #[.int .i64 k, .int .i64 a, .int .i64 b, .int .i64 c, .int .i64 e, .int .i64 s, .int .i64 t] 57 (0, 0)) → (W.cell? ⟨w.heap.size, 0, none⟩ = some (.slice A1 n1 c1) ∧ W.cell? ⟨w.heap.size, 1, none⟩ = some (.slice A2 n2 c2) ∧ W.cell? ⟨w.heap.size, 2, none⟩ = some (.slice A3 n3 c3) ∧ W.cell? ⟨w.heap.size, 3, none⟩ = some (.int .i64 K.tick) ∧ W.cell? ⟨w.heap.size, 4, none⟩ = some (.int .i64 K.run)) ∧ (W.cell? ⟨w.heap.size + 1, 3, none⟩ = some (.int .i64 c) ∧ W.cell? ⟨w.heap.size + 1, 4, none⟩ = some (.int .i64 e) ∧ W.cell? ⟨w.heap.size + 1, 5, none⟩ = some (.int .i64 s) ∧ W.cell? ⟨w.heap.size + 1, 6, none⟩ = some (.int .i64 t))) := fun W j j2 =>
    ⟨⟨cell_of_row W _ 0 _ _ _ j, cell_of_row W _ 1 _ _ _ j, cell_of_row W _ 2 _ _ _ j, cell_of_row W _ 3 _ _ _ j, cell_of_row W _ 4 _ _ _ j⟩, cell_of_row W _ 3 _ _ _ j2, cell_of_row W _ 4 _ _ _ j2, cell_of_row W _ 5 _ _ _ j2, cell_of_row W _ 6 _ _ _ j2⟩
  have DT : Hid (∀ W, Below w3.heap.size w3 W → Calls Tryz.prog 31 #[.agg #[.slice A1 n1 c1, .slice A2 n2 c2, .slice A3 n3 c3, .int .i64 K.tick, .int .i64 K.run], .agg #[.int .i64 c, .int .i64 e, .int .i64 s, .int .i64 t]] W (KAns (docall K c e s t).1 (docall K c e s t).2 [] W)) := fun W hW =>
    implDoCall_any lo (min hi w.heap.size) A1 n1 c1 A2 n2 c2 A3 n3 c3 K c e s t W hn1 (R3.out.below hW (by have := Z3.out; omega))
  generalize (docall K c e s t).1 = dq at *
  generalize (docall K c e s t).2 = dK at *
  go_enter Tryz.func139, Tryz.ntmps139
  go_upto_region 1 with (fail)
  rw [← HW3.out]
  clear HW3
  obtain ⟨⟨q0, q1, q2, q3, q4⟩, e3', e4', e5', e6'⟩ := KS2.out _ K1.out K2.out
  go_wp2_with fail
  refine (DT.out _ (Below.refl _ _)).mono ?_
  rintro e9 w4 ⟨pr, rfl, ho, hb⟩
  have X4 := X3.out.below hb
  have FA := Lib.hid (kans_on (w := w) (q := dq) ho hb X4 (by have := Z3.out; omega) (by omega) B3.out)
  have cc := fun j (hj : j < 7) => X4.cell j hj
  have ff := fun j => X4.frozen j
  have c0 := cc 0 (by omega); have c1' := cc 1 (by omega); have c2' := cc 2 (by omega); have c3' := cc 3 (by omega); have c4 := cc 4 (by omega); have c5 := cc 5 (by omega); have c6 := cc 6 (by omega)
  have f0 := ff 0; have f1 := ff 1; have f2 := ff 2; have f3 := ff 3; have f4 := ff 4; have f5 := ff 5; have f6 := ff 6
  unfold Rp.val
  clear cc ff X4 ho hb DT q0 q1 q2 q3 q4 e3' e4' e5' e6'
  go_wp2
  exact bodyPost_ret (results_cell_row rfl _ _ (w.heap.size + 1 + 1) _ _ (0, 0) _ rfl FA.out.1 Tryz.underlying61 rfl (by kernel_rfl)) rfl FA.out.2

noncomputable def mev3 (K : Ker) (k a b c e s t : Int) : Int × Ker × List Int :=
  if evf k a b c e s t ≠ 0 then (evf k a b c e s t, zeroKer, []) else if k = 2 then ((docall K c e s t).1, (docall K c e s t).2, []) else dotick K a b
theorem mev3_of {K : Ker} (h : SK K) (ht : K.tick < 100000) (k a b c e s t : Int) : mev3 K k a b c e s t = if (step3 K k a b c e s t).1 ≠ 0 then ((step3 K k a b c e s t).1, zeroKer, []) else step3 K k a b c e s t := by
  have hk := kf_of h
  by_cases h0 : evf k a b c e s t = 0
  · rcases evf_z h0 with ⟨k1, _, hv⟩ | ⟨k2, hc⟩
    · have hne : k ≠ 2 := by omega
      have e1 : step3 K k a b c e s t = (0, (tick3 K a b).1, (tick3 K a b).2) := by unfold step3; rw [if_neg (by simp [h0]), if_neg hne]
      have e2 : mev3 K k a b c e s t = dotick K a b := by unfold mev3; rw [if_neg (by simp [h0]), if_neg hne]
      have e3 : dotick K a b = (0, (tick3 K a b).1, (tick3 K a b).2) := by unfold dotick; rw [if_neg (by simp [hk]), if_neg (by simp [hv]), if_neg (by omega)]
      rw [e1, e2, e3]
      simp
    · have e1 : step3 K k a b c e s t = ((call3 K c e s t).1, (call3 K c e s t).2, []) := by unfold step3; rw [if_neg (by simp [h0]), if_pos k2]
      have e2 : mev3 K k a b c e s t = ((docall K c e s t).1, (docall K c e s t).2, []) := by unfold mev3; rw [if_neg (by simp [h0]), if_pos k2]
      have e3 : docall K c e s t = orZero (call3 K c e s t) := by unfold docall; rw [if_neg (by simp [hk]), if_neg (by simp [hc])]
      rw [e1, e2, e3]
      unfold orZero
      by_cases h1 : (call3 K c e s t).1 = 0
      · simp [h1]
      · simp [h1]
  · have e1 : step3 K k a b c e s t = (evf k a b c e s t, K, []) := by unfold step3; rw [if_pos h0]
    have e2 : mev3 K k a b c e s t = (evf k a b c e s t, zeroKer, []) := by unfold mev3; rw [if_pos h0]
    rw [e1, e2]
    simp [h0]

set_option maxHeartbeats 8000000 in
theorem meetEvent_any (lo hi : Nat) (A1 : Option Addr) (n1 c1 : Nat) (A2 : Option Addr) (n2 c2 : Nat) (A3 : Option Addr) (n3 c3 : Nat) (K : Ker) (k a b c e s t : Int) (w : World) (hn1 : n1 * 8 ≤ 140737488351232) (h : KRead w lo hi A1 n1 A2 n2 A3 n3 K) :
    Calls Tryz.prog 107 #[.agg #[.slice A1 n1 c1, .slice A2 n2 c2, .slice A3 n3 c3, .int .i64 K.tick, .int .i64 K.run], .agg #[.int .i64 k, .int .i64 a, .int .i64 b, .int .i64 c, .int .i64 e, .int .i64 s, .int .i64 t]] w (KAns (mev3 K k a b c e s t).1 (mev3 K k a b c e s t).2.1 (mev3 K k a b c e s t).2.2 w) := by
  obtain ⟨w3, hw3⟩ : ∃ w3, w3 = ((w.alloc (.cells #[.slice A1 n1 c1, .slice A2 n2 c2, .slice A3 n3 c3, .int .i64 K.tick, .int .i64 K.run] 39)).alloc (.cells #[.int .i64 k, .int .i64 a, .int .i64 b, .int .i64 c, .int .i64 e, .int .i64 s, .int .i64 t] 57)).alloc (.cells #[.int .i64 0, .slice none 0 0, .slice none 0 0, .slice none 0 0, .int .i64 0, .int .i64 0, .slice none 0 0] 61) := ⟨_, rfl⟩
  have k1 : w3.heap[w.heap.size]? = some (.cells #[.slice A1 n1 c1, .slice A2 n2 c2, .slice A3 n3 c3, .int .i64 K.tick, .int .i64 K.run] 39 (0, 0)) := by rw [hw3]; exact (Below.heap_alloc _ _ _ (by simp; omega)).trans (heap_alloc2_old w _ _)
  have k2 : w3.heap[w.heap.size + 1]? = some (.cells #[.int .i64 k, .int .i64 a, .int .i64 b, .int .i64 c, .int .i64 e, .int .i64 s, .int .i64 t] 57 (0, 0)) := by rw [hw3]; exact (Below.heap_alloc _ _ _ (by simp)).trans (heap_alloc2_new w _ _)
  have k3 : w3.heap[w.heap.size + 2]? = some (.cells #[.int .i64 0, .slice none 0 0, .slice none 0 0, .slice none 0 0, .int .i64 0, .int .i64 0, .slice none 0 0] 61 (0, 0)) := by
    rw [hw3]
    have := heap_alloc_new ((w.alloc (.cells #[.slice A1 n1 c1, .slice A2 n2 c2, .slice A3 n3 c3, .int .i64 K.tick, .int .i64 K.run] 39)).alloc (.cells #[.int .i64 k, .int .i64 a, .int .i64 b, .int .i64 c, .int .i64 e, .int .i64 s, .int .i64 t] 57)) (.cells #[.int .i64 0, .slice none 0 0, .slice none 0 0, .slice none 0 0, .int .i64 0, .int .i64 0, .slice none 0 0] 61)
    rwa [World.size_alloc, World.size_alloc] at this
  have B3 : Hid (Below w.heap.size w w3) := by rw [hw3]; exact ((below_new w _).alloc (by simp) _).alloc (by simp; omega) _
  have Z3 : Hid (w3.heap.size = w.heap.size + 3) := by show _ = _; rw [hw3]; simp
  have R3 := Lib.hid (h.lt.below B3.out (Nat.min_le_right _ _))
  have K1 := Lib.hid k1; have K2 := Lib.hid k2; have KZ := Lib.hid k3
  have X3 : Hid (BoxN 7 (w.heap.size + 1 + 1) 61 ((w.alloc (.cells #[.slice A1 n1 c1, .slice A2 n2 c2, .slice A3 n3 c3, .int .i64 K.tick, .int .i64 K.run] 39)).alloc (.cells #[.int .i64 k, .int .i64 a, .int .i64 b, .int .i64 c, .int .i64 e, .int .i64 s, .int .i64 t] 57)) w3) := by
    show BoxN _ _ _ _ _
    have := BoxN.new ((w.alloc (.cells #[.slice A1 n1 c1, .slice A2 n2 c2, .slice A3 n3 c3, .int .i64 K.tick, .int .i64 K.run] 39)).alloc (.cells #[.int .i64 k, .int .i64 a, .int .i64 b, .int .i64 c, .int .i64 e, .int .i64 s, .int .i64 t] 57)) #[.int .i64 0, .slice none 0 0, .slice none 0 0, .slice none 0 0, .int .i64 0, .int .i64 0, .slice none 0 0] 61
    rw [World.size_alloc, World.size_alloc] at this
    rw [hw3]
    exact this
  have HW3 := Lib.hid hw3
  clear h hw3 k1 k2 k3
  have EF := Lib.hid (implEventFault_any k a b c e s t w3)
  obtain ⟨q, hq⟩ : ∃ q, q = evf k a b c e s t := ⟨_, rfl⟩
  rw [← hq] at EF
  have HQ := Lib.hid hq
  clear hq
  have e0 := K2.out
  have e0' := cell_of_row w3 _ 0 _ _ _ e0; have e1' := cell_of_row w3 _ 1 _ _ _ e0; have e2' := cell_of_row w3 _ 2 _ _ _ e0; have e3' := cell_of_row w3 _ 3 _ _ _ e0; have e4' := cell_of_row w3 _ 4 _ _ _ e0; have e5' := cell_of_row w3 _ 5 _ _ _ e0; have e6' := cell_of_row w3 _ 6 _ _ _ e0
  simp at e0' e1' e2' e3' e4' e5' e6'
  clear e0
  go_enter Tryz.func107, Tryz.ntmps107
  go_upto_region 1 with (fail)
  rw [← HW3.out]
  clear HW3
  go_wp2_with fail
  refine EF.out.mono ?_
  rintro r w4 ⟨rfl, hb⟩
  have B4 := Lib.hid hb
  have H1 := Lib.hid ((hb.block _ (by have := Z3.out; omega)).trans K1.out)
  have H2 := Lib.hid ((hb.block _ (by have := Z3.out; omega)).trans K2.out)
  have HZ := Lib.hid ((hb.block _ (by have := Z3.out; omega)).trans KZ.out)
  have R4 := Lib.hid (R3.out.below hb (by have := Z3.out; omega))
  have Z4 : Hid (w.heap.size + 3 ≤ w4.heap.size) := by have := Z3.out; have := hb.size; show _ ≤ _; omega
  have BW := Lib.hid (B3.out.trans (hb.mono (by have := Z3.out; omega)))
  clear hb EF R3 K1 K2 KZ B4 B3 e0' e1' e2' e3' e4' e5' e6'
  by_cases h0 : q = 0
  case neg =>
    have y : (q != 0) = true := by simp [h0]
    have EM : Hid (mev3 K k a b c e s t = (q, zeroKer, [])) := by show _ = _; unfold mev3; rw [if_pos (by rw [← HQ.out]; exact h0), ← HQ.out]
    have hz := HZ.out
    have r0 := cell_of_row w4 _ 0 _ _ _ hz; have r1 := cell_of_row w4 _ 1 _ _ _ hz; have r2 := cell_of_row w4 _ 2 _ _ _ hz; have r3 := cell_of_row w4 _ 3 _ _ _ hz; have r4 := cell_of_row w4 _ 4 _ _ _ hz; have r5 := cell_of_row w4 _ 5 _ _ _ hz; have r6 := cell_of_row w4 _ 6 _ _ _ hz
    have f0 := frozen_of_row w4 _ 0 _ _ hz; have f1 := frozen_of_row w4 _ 1 _ _ hz; have f2 := frozen_of_row w4 _ 2 _ _ hz; have f3 := frozen_of_row w4 _ 3 _ _ hz; have f4 := frozen_of_row w4 _ 4 _ _ hz; have f5 := frozen_of_row w4 _ 5 _ _ hz; have f6 := frozen_of_row w4 _ 6 _ _ hz
    simp at r0 r1 r2 r3 r4 r5 r6
    clear hz h0
    go_wp2
    have hx := blk7_set HZ.out (.int .i64 q) (.slice none 0 0) (.slice none 0 0) (.slice none 0 0) (.int .i64 0) (.int .i64 0) (.slice none 0 0)
    exact bodyPost_ret (results_cell_row rfl _ _ (w.heap.size + 2) _ _ (0, 0) _ rfl hx Tryz.underlying61 rfl (by kernel_rfl)) rfl (by rw [EM.out]; exact kans_code (below7 (g := w.heap.size + 2) BW.out (by omega) _ _ _ _ _ _ _) (by simp; have := Z4.out; omega))
  have HV := Lib.hid (show evf k a b c e s t = 0 by rw [← HQ.out]; exact h0)
  subst h0
  clear HQ
  rcases evf_z HV.out with ⟨hk1, _, _⟩ | ⟨hk2, _⟩
  · obtain rfl : k = 1 := hk1
    have EM : Hid (mev3 K 1 a b c e s t = (dotick K a b)) := by
      show _ = _
      unfold mev3
      rw [if_neg (by simp [HV.out]), if_neg (by decide)]
    have E1 : Hid ((mev3 K 1 a b c e s t).1 = (dotick K a b).1) := by show _ = _; rw [EM.out]
    have E2 : Hid ((mev3 K 1 a b c e s t).2.1 = (dotick K a b).2.1) := by show _ = _; rw [EM.out]
    have E3 : Hid ((mev3 K 1 a b c e s t).2.2 = (dotick K a b).2.2) := by show _ = _; rw [EM.out]
    have KS2 : Hid (∀ W : World, W.heap[w.heap.size]? = some (.cells #[.slice A1 n1 c1, .slice A2 n2 c2, .slice A3 n3 c3, .int .i64 K.tick, .int .i64 K.run] 39 (0, 0)) → W.heap[w.heap.size + 1]? = some (.cells #[.int .i64 1, .int .i64 a, .int .i64 b, .int .i64 c, .int .i64 e, .int .i64 s, .int .i64 t] 57 (0, 0)) → (W.cell? ⟨w.heap.size, 0, none⟩ = some (.slice A1 n1 c1) ∧ W.cell? ⟨w.heap.size, 1, none⟩ = some (.slice A2 n2 c2) ∧ W.cell? ⟨w.heap.size, 2, none⟩ = some (.slice A3 n3 c3) ∧ W.cell? ⟨w.heap.size, 3, none⟩ = some (.int .i64 K.tick) ∧ W.cell? ⟨w.heap.size, 4, none⟩ = some (.int .i64 K.run)) ∧ (W.cell? ⟨w.heap.size + 1, 0, none⟩ = some (.int .i64 1) ∧ W.cell? ⟨w.heap.size + 1, 1, none⟩ = some (.int .i64 a) ∧ W.cell? ⟨w.heap.size + 1, 2, none⟩ = some (.int .i64 b) ∧ W.cell? ⟨w.heap.size + 1, 3, none⟩ = some (.int .i64 c) ∧ W.cell? ⟨w.heap.size + 1, 4, none⟩ = some (.int .i64 e) ∧ W.cell? ⟨w.heap.size + 1, 5, none⟩ = some (.int .i64 s) ∧ W.cell? ⟨w.heap.size + 1, 6, none⟩ = some (.int .i64 t))) := fun W j j2 =>
      ⟨⟨cell_of_row W _ 0 _ _ _ j, cell_of_row W _ 1 _ _ _ j, cell_of_row W _ 2 _ _ _ j, cell_of_row W _ 3 _ _ _ j, cell_of_row W _ 4 _ _ _ j⟩, cell_of_row W _ 0 _ _ _ j2, cell_of_row W _ 1 _ _ _ j2, cell_of_row W _ 2 _ _ _ j2, cell_of_row W _ 3 _ _ _ j2, cell_of_row W _ 4 _ _ _ j2, cell_of_row W _ 5 _ _ _ j2, cell_of_row W _ 6 _ _ _ j2⟩
    have MT : Hid (∀ W, Below w4.heap.size w4 W → Calls Tryz.prog 137 #[.agg #[.slice A1 n1 c1, .slice A2 n2 c2, .slice A3 n3 c3, .int .i64 K.tick, .int .i64 K.run], .agg #[.int .i64 1, .int .i64 a, .int .i64 b, .int .i64 c, .int .i64 e, .int .i64 s, .int .i64 t]] W (KAns (dotick K a b).1 (dotick K a b).2.1 (dotick K a b).2.2 W)) := fun W hW =>
      meetTick_any lo (min hi w.heap.size) A1 n1 c1 A2 n2 c2 A3 n3 c3 K 1 a b c e s t W hn1 (R4.out.below hW (by have := Z4.out; omega))
    have fl := run_ek1
    clear EM
    generalize (dotick K a b).1 = dq at *
    generalize (dotick K a b).2.1 = dK at *
    generalize (dotick K a b).2.2 = dN at *
    go_upto_region 4 with (fail)
    refine wp_region_held_drew (S := fun W => (W.cell? ⟨w.heap.size, 0, none⟩ = some (.slice A1 n1 c1) ∧ W.cell? ⟨w.heap.size, 1, none⟩ = some (.slice A2 n2 c2) ∧ W.cell? ⟨w.heap.size, 2, none⟩ = some (.slice A3 n3 c3) ∧ W.cell? ⟨w.heap.size, 3, none⟩ = some (.int .i64 K.tick) ∧ W.cell? ⟨w.heap.size, 4, none⟩ = some (.int .i64 K.run)) ∧ (W.cell? ⟨w.heap.size + 1, 0, none⟩ = some (.int .i64 1) ∧ W.cell? ⟨w.heap.size + 1, 1, none⟩ = some (.int .i64 a) ∧ W.cell? ⟨w.heap.size + 1, 2, none⟩ = some (.int .i64 b) ∧ W.cell? ⟨w.heap.size + 1, 3, none⟩ = some (.int .i64 c) ∧ W.cell? ⟨w.heap.size + 1, 4, none⟩ = some (.int .i64 e) ∧ W.cell? ⟨w.heap.size + 1, 5, none⟩ = some (.int .i64 s) ∧ W.cell? ⟨w.heap.size + 1, 6, none⟩ = some (.int .i64 t))) (by kernel_rfl) (KS2.out _ H1.out H2.out) (fun hHeld => ?_)
    obtain ⟨v0, hv0⟩ : ∃ v0, v0 = w4.drew := ⟨_, rfl⟩
    have BL0 : Hid (Below w4.heap.size w4 v0) := by rw [hv0]; exact Below.drew (Below.refl _ _)
    rw [← hv0] at hHeld ⊢
    clear hv0
    refine tkH 1 ?_ rfl ?_ hHeld ?_; rotate_left; (intro w hSw; (try dsimp only at hSw); go_simp; try with_reducible rfl); try simp only [Act.put, zz1, zz2, zz3, zz4, zz5, zz6]
    refine tkH 2 ?_ rfl ?_ hHeld ?_; rotate_left; (intro w hSw; (try dsimp only at hSw); go_simp; try with_reducible rfl); try simp only [Act.put, zz1, zz2, zz3, zz4, zz5, zz6]
    refine tkH 5 ?_ rfl ?_ hHeld ?_; rotate_left; (intro w hSw; (try dsimp only at hSw); go_simp; try with_reducible rfl); try simp only [Act.put, zz1, zz2, zz3, zz4, zz5, zz6]
    refine tkH 6 ?_ rfl ?_ hHeld ?_; rotate_left; (intro w hSw; (try dsimp only at hSw); go_simp; try with_reducible rfl); try simp only [Act.put, zz1, zz2, zz3, zz4, zz5, zz6]
    refine wpAnyH_ready (rs := [0]) (by kernel_rfl) (by simp) ?_
    refine AllReadyH.cons (o := _) rfl (fun K0 hK0 => ?_) AllReadyH.nil
    go_simp
    refine (eventKinds_any v0).mono ?_
    rintro e9 v1 ⟨rfl, hv1⟩
    have HV1 := Lib.hid hv1
    clear hv1
    go_wp2_with fail
    have BV1 := Lib.hid (show Below w4.heap.size w4 v1 by rw [HV1.out]; exact BL0.out.alloc BL0.out.size _)
    have L1 := eventKinds_look 1 false v1 v0.heap.size (by rw [HV1.out]; exact heap_alloc_new v0 _)
    have kv : ekf 1 = .func (.func 136) #[] #[] := rfl
    have kg : ekg 1 = .func (.func 137) #[] #[] := rfl
    rw [kv, kg] at L1
    simp only [Bool.false_eq_true, if_false] at L1
    clear kv kg HV1
    refine hK0.out _ _ (KS2.out _ ((BV1.out.block _ (by have := Z4.out; omega)).trans H1.out) ((BV1.out.block _ (by have := Z4.out; omega)).trans H2.out)) (fun hHeld => ?_)
    clear hK0 K0
    try simp only [Act.put, zz1, zz2, zz3, zz4, zz5, zz6]
    refine wpAnyH_ready (rs := [3]) (by kernel_rfl) (by simp) ?_
    refine AllReadyH.cons (o := _) rfl (fun K0 hK0 => ?_) AllReadyH.nil
    go_simp
    refine hK0.out _ _ (KS2.out _ ((BV1.out.block _ (by have := Z4.out; omega)).trans H1.out) ((BV1.out.block _ (by have := Z4.out; omega)).trans H2.out)) (fun hHeld => ?_)
    clear hK0 K0
    try simp only [Act.put, zz1, zz2, zz3, zz4, zz5, zz6]
    refine tkH 4 ?_ rfl ?_ hHeld ?_; rotate_left; (intro w hSw; (try dsimp only at hSw); go_simp; try with_reducible rfl); try simp only [Act.put, zz1, zz2, zz3, zz4, zz5, zz6]
    refine wpAnyH_ready (rs := [7]) (by kernel_rfl) (by simp) ?_
    refine AllReadyH.cons (o := _) rfl (fun K0 hK0 => ?_) AllReadyH.nil
    go_simp
    refine (MT.out _ BV1.out).mono ?_
    rintro e9 v2 ⟨pr, rfl, ho, hb⟩
    go_wp2_with fail
    have BV2 := Lib.hid (BV1.out.trans (hb.mono BV1.out.size))
    have ZB := Lib.hid ((BV2.out.block (w.heap.size + 2) (by have := Z4.out; omega)).trans HZ.out)
    have OW := Lib.hid ho
    have SV := Lib.hid (show w4.heap.size ≤ v1.heap.size from BV1.out.size)
    unfold Rp.val
    clear ho hb
    refine hK0.out _ _ (KS2.out _ ((BV2.out.block _ (by have := Z4.out; omega)).trans H1.out) ((BV2.out.block _ (by have := Z4.out; omega)).trans H2.out)) (fun hHeld => ?_)
    clear hK0 K0
    try simp only [Act.put, zz1, zz2, zz3, zz4, zz5, zz6]
    refine wpAnyH_ready (rs := [8]) (by kernel_rfl) (by simp) ?_
    refine AllReadyH.cons (o := _) rfl (fun K0 hK0 => ?_) AllReadyH.nil
    clear hHeld
    rw [if_pos (by rfl)]
    refine wp_store_row 61 _ _ rfl ((w.heap.size + 2)) _ rfl rfl 61 _ ZB.out (by kernel_rfl) rfl (by simp [Value.oneCell']) ?_
    refine hK0.out _ _ (KS2.out _ ((setRow_other _ _ _ _ (by omega)).trans ((BV2.out.block _ (by have := Z4.out; omega)).trans H1.out)) ((setRow_other _ _ _ _ (by omega)).trans ((BV2.out.block _ (by have := Z4.out; omega)).trans H2.out))) (fun hHeld => ?_)
    clear hK0 K0
    try simp only [Act.put, zz1, zz2, zz3, zz4, zz5, zz6]
    refine wpAnyH_done (by kernel_rfl) ?_ _
    go_wp2_with fail
    have AT := ansAt_of (w := w) (K := dK) (q := dq) ZB.out OW.out (.inl (by have := SV.out; have := Z4.out; omega)) (by have := SV.out; have := Z4.out; omega) (Nat.le_refl _) (by omega) (BW.out.trans (BV2.out.mono (by have := Z4.out; omega)))
    exact bodyPost_ret (results_cell_row rfl _ _ (w.heap.size + 2) _ _ (0, 0) _ rfl (setRow_heap _ _ _ _ _ _ ZB.out) Tryz.underlying61 rfl (by kernel_rfl)) rfl (by rw [E1.out, E2.out, E3.out]; exact kans_at AT (setRow_heap _ _ _ _ _ _ ZB.out))
  · obtain rfl : k = 2 := hk2
    have EM : Hid (mev3 K 2 a b c e s t = (((docall K c e s t).1, (docall K c e s t).2, []))) := by
      show _ = _
      unfold mev3
      rw [if_neg (by simp [HV.out]), if_pos rfl]
    have E1 : Hid ((mev3 K 2 a b c e s t).1 = (docall K c e s t).1) := by show _ = _; rw [EM.out]
    have E2 : Hid ((mev3 K 2 a b c e s t).2.1 = (docall K c e s t).2) := by show _ = _; rw [EM.out]
    have E3 : Hid ((mev3 K 2 a b c e s t).2.2 = []) := by show _ = _; rw [EM.out]
    have KS2 : Hid (∀ W : World, W.heap[w.heap.size]? = some (.cells #[.slice A1 n1 c1, .slice A2 n2 c2, .slice A3 n3 c3, .int .i64 K.tick, .int .i64 K.run] 39 (0, 0)) → W.heap[w.heap.size + 1]? = some (.cells #[.int .i64 2, .int .i64 a, .int .i64 b, .int .i64 c, .int .i64 e, .int .i64 s, .int .i64 t] 57 (0, 0)) → (W.cell? ⟨w.heap.size, 0, none⟩ = some (.slice A1 n1 c1) ∧ W.cell? ⟨w.heap.size, 1, none⟩ = some (.slice A2 n2 c2) ∧ W.cell? ⟨w.heap.size, 2, none⟩ = some (.slice A3 n3 c3) ∧ W.cell? ⟨w.heap.size, 3, none⟩ = some (.int .i64 K.tick) ∧ W.cell? ⟨w.heap.size, 4, none⟩ = some (.int .i64 K.run)) ∧ (W.cell? ⟨w.heap.size + 1, 0, none⟩ = some (.int .i64 2) ∧ W.cell? ⟨w.heap.size + 1, 1, none⟩ = some (.int .i64 a) ∧ W.cell? ⟨w.heap.size + 1, 2, none⟩ = some (.int .i64 b) ∧ W.cell? ⟨w.heap.size + 1, 3, none⟩ = some (.int .i64 c) ∧ W.cell? ⟨w.heap.size + 1, 4, none⟩ = some (.int .i64 e) ∧ W.cell? ⟨w.heap.size + 1, 5, none⟩ = some (.int .i64 s) ∧ W.cell? ⟨w.heap.size + 1, 6, none⟩ = some (.int .i64 t))) := fun W j j2 =>
      ⟨⟨cell_of_row W _ 0 _ _ _ j, cell_of_row W _ 1 _ _ _ j, cell_of_row W _ 2 _ _ _ j, cell_of_row W _ 3 _ _ _ j, cell_of_row W _ 4 _ _ _ j⟩, cell_of_row W _ 0 _ _ _ j2, cell_of_row W _ 1 _ _ _ j2, cell_of_row W _ 2 _ _ _ j2, cell_of_row W _ 3 _ _ _ j2, cell_of_row W _ 4 _ _ _ j2, cell_of_row W _ 5 _ _ _ j2, cell_of_row W _ 6 _ _ _ j2⟩
    have MT : Hid (∀ W, Below w4.heap.size w4 W → Calls Tryz.prog 139 #[.agg #[.slice A1 n1 c1, .slice A2 n2 c2, .slice A3 n3 c3, .int .i64 K.tick, .int .i64 K.run], .agg #[.int .i64 2, .int .i64 a, .int .i64 b, .int .i64 c, .int .i64 e, .int .i64 s, .int .i64 t]] W (KAns (docall K c e s t).1 (docall K c e s t).2 [] W)) := fun W hW =>
      meetCall_any lo (min hi w.heap.size) A1 n1 c1 A2 n2 c2 A3 n3 c3 K 2 a b c e s t W hn1 (R4.out.below hW (by have := Z4.out; omega))
    have fl := run_ek1
    clear EM
    generalize (docall K c e s t).1 = dq at *
    generalize (docall K c e s t).2 = dK at *
    go_upto_region 4 with (fail)
    refine wp_region_held_drew (S := fun W => (W.cell? ⟨w.heap.size, 0, none⟩ = some (.slice A1 n1 c1) ∧ W.cell? ⟨w.heap.size, 1, none⟩ = some (.slice A2 n2 c2) ∧ W.cell? ⟨w.heap.size, 2, none⟩ = some (.slice A3 n3 c3) ∧ W.cell? ⟨w.heap.size, 3, none⟩ = some (.int .i64 K.tick) ∧ W.cell? ⟨w.heap.size, 4, none⟩ = some (.int .i64 K.run)) ∧ (W.cell? ⟨w.heap.size + 1, 0, none⟩ = some (.int .i64 2) ∧ W.cell? ⟨w.heap.size + 1, 1, none⟩ = some (.int .i64 a) ∧ W.cell? ⟨w.heap.size + 1, 2, none⟩ = some (.int .i64 b) ∧ W.cell? ⟨w.heap.size + 1, 3, none⟩ = some (.int .i64 c) ∧ W.cell? ⟨w.heap.size + 1, 4, none⟩ = some (.int .i64 e) ∧ W.cell? ⟨w.heap.size + 1, 5, none⟩ = some (.int .i64 s) ∧ W.cell? ⟨w.heap.size + 1, 6, none⟩ = some (.int .i64 t))) (by kernel_rfl) (KS2.out _ H1.out H2.out) (fun hHeld => ?_)
    obtain ⟨v0, hv0⟩ : ∃ v0, v0 = w4.drew := ⟨_, rfl⟩
    have BL0 : Hid (Below w4.heap.size w4 v0) := by rw [hv0]; exact Below.drew (Below.refl _ _)
    rw [← hv0] at hHeld ⊢
    clear hv0
    refine tkH 1 ?_ rfl ?_ hHeld ?_; rotate_left; (intro w hSw; (try dsimp only at hSw); go_simp; try with_reducible rfl); try simp only [Act.put, zz1, zz2, zz3, zz4, zz5, zz6]
    refine tkH 2 ?_ rfl ?_ hHeld ?_; rotate_left; (intro w hSw; (try dsimp only at hSw); go_simp; try with_reducible rfl); try simp only [Act.put, zz1, zz2, zz3, zz4, zz5, zz6]
    refine tkH 5 ?_ rfl ?_ hHeld ?_; rotate_left; (intro w hSw; (try dsimp only at hSw); go_simp; try with_reducible rfl); try simp only [Act.put, zz1, zz2, zz3, zz4, zz5, zz6]
    refine tkH 6 ?_ rfl ?_ hHeld ?_; rotate_left; (intro w hSw; (try dsimp only at hSw); go_simp; try with_reducible rfl); try simp only [Act.put, zz1, zz2, zz3, zz4, zz5, zz6]
    refine wpAnyH_ready (rs := [0]) (by kernel_rfl) (by simp) ?_
    refine AllReadyH.cons (o := _) rfl (fun K0 hK0 => ?_) AllReadyH.nil
    go_simp
    refine (eventKinds_any v0).mono ?_
    rintro e9 v1 ⟨rfl, hv1⟩
    have HV1 := Lib.hid hv1
    clear hv1
    go_wp2_with fail
    have BV1 := Lib.hid (show Below w4.heap.size w4 v1 by rw [HV1.out]; exact BL0.out.alloc BL0.out.size _)
    have L1 := eventKinds_look 2 false v1 v0.heap.size (by rw [HV1.out]; exact heap_alloc_new v0 _)
    have kv : ekf 2 = .func (.func 138) #[] #[] := rfl
    have kg : ekg 2 = .func (.func 139) #[] #[] := rfl
    rw [kv, kg] at L1
    simp only [Bool.false_eq_true, if_false] at L1
    clear kv kg HV1
    refine hK0.out _ _ (KS2.out _ ((BV1.out.block _ (by have := Z4.out; omega)).trans H1.out) ((BV1.out.block _ (by have := Z4.out; omega)).trans H2.out)) (fun hHeld => ?_)
    clear hK0 K0
    try simp only [Act.put, zz1, zz2, zz3, zz4, zz5, zz6]
    refine wpAnyH_ready (rs := [3]) (by kernel_rfl) (by simp) ?_
    refine AllReadyH.cons (o := _) rfl (fun K0 hK0 => ?_) AllReadyH.nil
    go_simp
    refine hK0.out _ _ (KS2.out _ ((BV1.out.block _ (by have := Z4.out; omega)).trans H1.out) ((BV1.out.block _ (by have := Z4.out; omega)).trans H2.out)) (fun hHeld => ?_)
    clear hK0 K0
    try simp only [Act.put, zz1, zz2, zz3, zz4, zz5, zz6]
    refine tkH 4 ?_ rfl ?_ hHeld ?_; rotate_left; (intro w hSw; (try dsimp only at hSw); go_simp; try with_reducible rfl); try simp only [Act.put, zz1, zz2, zz3, zz4, zz5, zz6]
    refine wpAnyH_ready (rs := [7]) (by kernel_rfl) (by simp) ?_
    refine AllReadyH.cons (o := _) rfl (fun K0 hK0 => ?_) AllReadyH.nil
    go_simp
    refine (MT.out _ BV1.out).mono ?_
    rintro e9 v2 ⟨pr, rfl, ho, hb⟩
    go_wp2_with fail
    have BV2 := Lib.hid (BV1.out.trans (hb.mono BV1.out.size))
    have ZB := Lib.hid ((BV2.out.block (w.heap.size + 2) (by have := Z4.out; omega)).trans HZ.out)
    have OW := Lib.hid ho
    have SV := Lib.hid (show w4.heap.size ≤ v1.heap.size from BV1.out.size)
    unfold Rp.val
    clear ho hb
    refine hK0.out _ _ (KS2.out _ ((BV2.out.block _ (by have := Z4.out; omega)).trans H1.out) ((BV2.out.block _ (by have := Z4.out; omega)).trans H2.out)) (fun hHeld => ?_)
    clear hK0 K0
    try simp only [Act.put, zz1, zz2, zz3, zz4, zz5, zz6]
    refine wpAnyH_ready (rs := [8]) (by kernel_rfl) (by simp) ?_
    refine AllReadyH.cons (o := _) rfl (fun K0 hK0 => ?_) AllReadyH.nil
    clear hHeld
    rw [if_pos (by rfl)]
    refine wp_store_row 61 _ _ rfl ((w.heap.size + 2)) _ rfl rfl 61 _ ZB.out (by kernel_rfl) rfl (by simp [Value.oneCell']) ?_
    refine hK0.out _ _ (KS2.out _ ((setRow_other _ _ _ _ (by omega)).trans ((BV2.out.block _ (by have := Z4.out; omega)).trans H1.out)) ((setRow_other _ _ _ _ (by omega)).trans ((BV2.out.block _ (by have := Z4.out; omega)).trans H2.out))) (fun hHeld => ?_)
    clear hK0 K0
    try simp only [Act.put, zz1, zz2, zz3, zz4, zz5, zz6]
    refine wpAnyH_done (by kernel_rfl) ?_ _
    go_wp2_with fail
    have AT := ansAt_of (w := w) (K := dK) (q := dq) ZB.out OW.out (.inl (by have := SV.out; have := Z4.out; omega)) (by have := SV.out; have := Z4.out; omega) (Nat.le_refl _) (by omega) (BW.out.trans (BV2.out.mono (by have := Z4.out; omega)))
    exact bodyPost_ret (results_cell_row rfl _ _ (w.heap.size + 2) _ _ (0, 0) _ rfl (setRow_heap _ _ _ _ _ _ ZB.out) Tryz.underlying61 rfl (by kernel_rfl)) rfl (by rw [E1.out, E2.out, E3.out]; exact kans_at AT (setRow_heap _ _ _ _ _ _ ZB.out))



theorem LoopI.ker {w W : World} {h : Nat} {p : Kp} {K : Ker} {A4 : Option Addr} {k c4 : Nat} {cs : List Int} {A5 : Option Addr} {m c5 : Nat} {ns : List Int} (J : LoopI w W h p K A4 k c4 cs A5 m c5 ns) {p' : Kp} {K' : Ker} (own : KOwn W p' K') (n1 : 1 ≤ p'.n1) (ap : ∀ b, A4 = some ⟨b, 0, none⟩ → b ≠ p'.g1) (lo : w.heap.size ≤ p'.g1 ∧ w.heap.size ≤ p'.g2 ∧ w.heap.size ≤ p'.g3) :
    LoopI w (((((W.setCell ⟨h, 1, none⟩ (.slice p'.A1 p'.n1 p'.c1)).setCell ⟨h, 2, none⟩ (.slice p'.A2 4 p'.c2)).setCell ⟨h, 3, none⟩ (.slice p'.A3 4 p'.c3)).setCell ⟨h, 4, none⟩ (.int .i64 K'.tick)).setCell ⟨h, 5, none⟩ (.int .i64 K'.run)) h p' K' A4 k c4 cs A5 m c5 ns := by
  obtain ⟨x1, hx1⟩ := mine_blk own.m1 (by omega)
  obtain ⟨x2, hx2⟩ := mine_blk own.m2 (by decide)
  obtain ⟨x3, hx3⟩ := mine_blk own.m3 (by decide)
  have S : ∀ b, b ≠ h → (((((W.setCell ⟨h, 1, none⟩ (.slice p'.A1 p'.n1 p'.c1)).setCell ⟨h, 2, none⟩ (.slice p'.A2 4 p'.c2)).setCell ⟨h, 3, none⟩ (.slice p'.A3 4 p'.c3)).setCell ⟨h, 4, none⟩ (.int .i64 K'.tick)).setCell ⟨h, 5, none⟩ (.int .i64 K'.run)).heap[b]? = W.heap[b]? := fun b hb => ((Below.heap_setCell _ ⟨h, 5, none⟩ _ _ hb).trans ((Below.heap_setCell _ ⟨h, 4, none⟩ _ _ hb).trans ((Below.heap_setCell _ ⟨h, 3, none⟩ _ _ hb).trans ((Below.heap_setCell _ ⟨h, 2, none⟩ _ _ hb).trans ((Below.heap_setCell _ ⟨h, 1, none⟩ _ _ hb).trans rfl)))))
  refine ⟨own.keepB (S _ (blk_ne hx1 J.box (by decide))) (S _ (blk_ne hx2 J.box (by decide))) (S _ (blk_ne hx3 J.box (by decide))), n1, (heap_setCell_same _ _ 5 _ _ _ (heap_setCell_same _ _ 4 _ _ _ (heap_setCell_same _ _ 3 _ _ _ (heap_setCell_same _ _ 2 _ _ _ (heap_setCell_same _ _ 1 _ _ _ J.box))))), J.oc.keepAll fun b e => ?_, J.on.keepAll fun b e => ?_, ap, ⟨J.lo.1, lo⟩, (((((J.bw.setCell (p := ⟨h, 1, none⟩) J.lo.1 _).setCell (p := ⟨h, 2, none⟩) J.lo.1 _).setCell (p := ⟨h, 3, none⟩) J.lo.1 _).setCell (p := ⟨h, 4, none⟩) J.lo.1 _).setCell (p := ⟨h, 5, none⟩) J.lo.1 _)⟩
  · have hoc := J.oc
    rw [e] at hoc
    obtain ⟨_, hx⟩ := or_blk hoc
    exact S _ (blk_ne hx J.box (by decide))
  · have hoc := J.on
    rw [e] at hoc
    obtain ⟨_, hx⟩ := or_blk hoc
    exact S _ (blk_ne hx J.box (by decide))
theorem run_append_zero3 {P : Program} {w : World} (base : Nat) (t ty e : TypeId) (i : TypeInfo) (size : Nat) (ht : P.underlying t = some (.slice e)) (hi : P.info? e = some i)
    (v : Value) (n : Nat) (xs : List Value) (hown : w.ownsRow base e size v n xs) (ad : Option Addr) (c : Nat) :
    (Builtin.append_ #[t, t] ty #[v, .slice ad 0 c]).run P w = .ok v w := by
  rcases ad with _ | ad
  · rcases hown.2 with ⟨rfl, rfl⟩ | ⟨g, cap, cur, rfl, _, _, hnc, _⟩
    · simp [Builtin.append_, run_underlying ht, sizeOf, typeInfo, hi, Builtin.lenOf, Builtin.firstCells]
    · simp [Builtin.append_, run_underlying ht, sizeOf, typeInfo, hi, Builtin.lenOf, Builtin.firstCells, hnc, storeCells]
  · rcases hown.2 with ⟨rfl, rfl⟩ | ⟨g, cap, cur, rfl, _, _, hnc, _⟩
    · simp [Builtin.append_, run_underlying ht, sizeOf, typeInfo, hi, Builtin.lenOf, Builtin.firstCells, loadCells, loadCellsFrom]
    · simp [Builtin.append_, run_underlying ht, sizeOf, typeInfo, hi, Builtin.lenOf, Builtin.firstCells, hnc, storeCells, loadCells, loadCellsFrom]
theorem step_zero3 {P : Program} {w : World} {ops : Array Oper} {o : Oper} {a : Act} {K : Act → World → Prop} {Q : Exit → Act → World → Prop} {E : Prop} (hgd : o.guard = none) (s x : Operand) (t : TypeId)
    (ho : o.op = .call { callee := .builtin .append, args := #[s, x], argTypes := #[t, t] })
    (base : Nat) (e : TypeId) (i : TypeInfo) (size : Nat) (ht : P.underlying t = some (.slice e)) (hi : P.info? e = some i)
    (v : Value) (n : Nat) (xs : List Value) (hs : a.eval s = v) (hown : w.ownsRow base e size v n xs) (ad : Option Addr) (c : Nat) (hx : a.eval x = .slice ad 0 c)
    (h : K (a.put o.dst v) w) : if Region.wanted o (yielded ops a.tmps) = true then Oper.wp P o a w K Q else E := by
  have hw : Region.wanted o (yielded ops a.tmps) = true := by simp [Region.wanted, hgd]
  have hrun := run_append_zero3 (P := P) (w := w) base t o.type e i size ht hi v n xs hown ad c
  rw [if_pos hw]
  unfold Oper.wp
  simp [execOp, ho, resolve, invoke, builtin, hs, hx, hrun, Result.andThen]
  exact h
theorem KOwn.read3 {w : World} {p : Kp} {K : Ker} (h : KOwn w p K) (h1 : p.g1 < w.heap.size) (h2 : p.g2 < w.heap.size) (h3 : p.g3 < w.heap.size) : KRead w 0 w.heap.size p.A1 p.n1 p.A2 4 p.A3 4 K :=
  ⟨⟨h.l1, h.l2, h.l3⟩, h.m1.sl.wide (Nat.zero_le _) (by omega), h.m2.sl.wide (Nat.zero_le _) (by omega), h.m3.sl.wide (Nat.zero_le _) (by omega)⟩

set_option maxHeartbeats 16000000 in
theorem meetNext_any {w W : World} {h : Nat} {p : Kp} {K : Ker} {A4 : Option Addr} {k c4 : Nat} {cs : List Int} {A5 : Option Addr} {m c5 : Nat} {ns : List Int} (J0 : LoopI w W h p K A4 k c4 cs A5 m c5 ns) (sk : SK K) (ht : K.tick < 100000) (hk : k ≤ 400) (hm : m ≤ 3600) (ek ea eb ec ee es et : Int) :
    Calls Tryz.prog 58 #[.pointer (some ⟨h, 0, none⟩), .agg #[.int .i64 ek, .int .i64 ea, .int .i64 eb, .int .i64 ec, .int .i64 ee, .int .i64 es, .int .i64 et]] W fun e W' => e = .returned (.tuple #[]) ∧ ∃ (p' : Kp) (A4' : Option Addr) (c4' : Nat) (A5' : Option Addr) (m' c5' : Nat), LoopI w W' h p' (step3 K ek ea eb ec ee es et).2.1 A4' (k + 1) c4' (cs ++ [(step3 K ek ea eb ec ee es et).1]) A5' m' c5' (ns ++ (step3 K ek ea eb ec ee es et).2.2) := by
  obtain ⟨i0, hi0, hz0, hz1, hz2⟩ := info_parts Tryz.info_i64
  obtain ⟨i3, hi3, hy0, hy1, hy2⟩ := info_parts Tryz.info_Note
  obtain ⟨w1, hw1⟩ : ∃ w1, w1 = W.alloc (.cells #[.int .i64 ek, .int .i64 ea, .int .i64 eb, .int .i64 ec, .int .i64 ee, .int .i64 es, .int .i64 et] 57) := ⟨_, rfl⟩
  have KE : w1.heap[W.heap.size]? = some (.cells #[.int .i64 ek, .int .i64 ea, .int .i64 eb, .int .i64 ec, .int .i64 ee, .int .i64 es, .int .i64 et] 57 (0, 0)) := by rw [hw1]; exact heap_alloc_new W _
  have J := Lib.hid (show LoopI w w1 h p K A4 k c4 cs A5 m c5 ns by rw [hw1]; exact J0.below (below_new W _))
  have Z1 : Hid (w1.heap.size = W.heap.size + 1) := by show _ = _; rw [hw1]; simp
  have LW : Hid (∀ b, A4 = some ⟨b, 0, none⟩ → b < w1.heap.size) := fun b e => by
    have hoc := J.out.oc
    rw [e] at hoc
    exact hoc.lt.2
  have KS : Hid (∀ X : World, Below w1.heap.size w1 X → (X.cell? ⟨h, 1, none⟩ = some (.slice p.A1 p.n1 p.c1) ∧ X.cell? ⟨h, 2, none⟩ = some (.slice p.A2 4 p.c2) ∧ X.cell? ⟨h, 3, none⟩ = some (.slice p.A3 4 p.c3) ∧ X.cell? ⟨h, 4, none⟩ = some (.int .i64 K.tick) ∧ X.cell? ⟨h, 5, none⟩ = some (.int .i64 K.run)) ∧ (X.cell? ⟨W.heap.size, 0, none⟩ = some (.int .i64 ek) ∧ X.cell? ⟨W.heap.size, 1, none⟩ = some (.int .i64 ea) ∧ X.cell? ⟨W.heap.size, 2, none⟩ = some (.int .i64 eb) ∧ X.cell? ⟨W.heap.size, 3, none⟩ = some (.int .i64 ec) ∧ X.cell? ⟨W.heap.size, 4, none⟩ = some (.int .i64 ee) ∧ X.cell? ⟨W.heap.size, 5, none⟩ = some (.int .i64 es) ∧ X.cell? ⟨W.heap.size, 6, none⟩ = some (.int .i64 et))) := fun X hX => by
    have j := (hX.block h (Array.getElem?_eq_some_iff.1 J.out.box).1).trans J.out.box
    have j2 := (hX.block W.heap.size (by have := Z1.out; omega)).trans KE
    exact ⟨⟨cell_of_row X _ 1 _ _ _ j, cell_of_row X _ 2 _ _ _ j, cell_of_row X _ 3 _ _ _ j, cell_of_row X _ 4 _ _ _ j, cell_of_row X _ 5 _ _ _ j⟩, cell_of_row X _ 0 _ _ _ j2, cell_of_row X _ 1 _ _ _ j2, cell_of_row X _ 2 _ _ _ j2, cell_of_row X _ 3 _ _ _ j2, cell_of_row X _ 4 _ _ _ j2, cell_of_row X _ 5 _ _ _ j2, cell_of_row X _ 6 _ _ _ j2⟩
  obtain ⟨r3, hr3⟩ : ∃ r3, r3 = step3 K ek ea eb ec ee es et := ⟨_, rfl⟩
  have RM : Hid (mev3 K ek ea eb ec ee es et = if r3.1 ≠ 0 then (r3.1, zeroKer, []) else r3) := by show _ = _; rw [hr3]; exact mev3_of sk ht ek ea eb ec ee es et
  have RB : Hid (r3.1 ≠ 0 → r3.2 = (K, [])) := fun hh => by rw [hr3] at hh ⊢; exact step3_bad hh
  have RS : Hid (SK r3.2.1 ∧ r3.2.2.length ≤ 9) := by
    obtain ⟨a, _, b⟩ := step3_sk sk ht ek ea eb ec ee es et
    show _ ∧ _
    rw [hr3]
    exact ⟨a, b⟩
  have ME : Hid (∀ X, Below w1.heap.size w1 X → Calls Tryz.prog 107 #[.agg #[.slice p.A1 p.n1 p.c1, .slice p.A2 4 p.c2, .slice p.A3 4 p.c3, .int .i64 K.tick, .int .i64 K.run], .agg #[.int .i64 ek, .int .i64 ea, .int .i64 eb, .int .i64 ec, .int .i64 ee, .int .i64 es, .int .i64 et]] X (KAns (mev3 K ek ea eb ec ee es et).1 (mev3 K ek ea eb ec ee es et).2.1 (mev3 K ek ea eb ec ee es et).2.2 X)) := fun X hX => by
    have jx := J.out.below hX
    obtain ⟨_, hx1⟩ := mine_blk jx.own.m1 (by have := jx.n1; omega)
    obtain ⟨_, hx2⟩ := mine_blk jx.own.m2 (by decide)
    obtain ⟨_, hx3⟩ := mine_blk jx.own.m3 (by decide)
    have v1 := (vf_zero sk.v).2.1
    have l1 := jx.own.l1
    exact meetEvent_any 0 X.heap.size p.A1 p.n1 p.c1 p.A2 4 p.c2 p.A3 4 p.c3 K ek ea eb ec ee es et X (by omega) (jx.own.read3 (Array.getElem?_eq_some_iff.1 hx1).1 (Array.getElem?_eq_some_iff.1 hx2).1 (Array.getElem?_eq_some_iff.1 hx3).1)
  rw [← hr3]
  obtain ⟨rm, hrm⟩ : ∃ rm, rm = mev3 K ek ea eb ec ee es et := ⟨_, rfl⟩
  rw [← hrm] at ME RM
  obtain ⟨mq, mK, mn⟩ := rm
  have HK := Lib.hid hk; have HM := Lib.hid hm
  have HW1 := Lib.hid hw1
  clear hw1 KE J0 sk ht hr3 hrm hk hm
  go_enter Tryz.func58, Tryz.ntmps58
  go_upto_region 1 with (fail)
  rw [← HW1.out]
  clear HW1
  go_cut [4] from 5 (fun x wx => ∃ gb, x = .pointer (some ⟨gb, 0, none⟩) ∧ AnsAt w1 gb mq mK mn wx)
  case first => as_aux_lemma =>
    refine wp_region_held_drew (S := fun X => (X.cell? ⟨h, 1, none⟩ = some (.slice p.A1 p.n1 p.c1) ∧ X.cell? ⟨h, 2, none⟩ = some (.slice p.A2 4 p.c2) ∧ X.cell? ⟨h, 3, none⟩ = some (.slice p.A3 4 p.c3) ∧ X.cell? ⟨h, 4, none⟩ = some (.int .i64 K.tick) ∧ X.cell? ⟨h, 5, none⟩ = some (.int .i64 K.run)) ∧ (X.cell? ⟨W.heap.size, 0, none⟩ = some (.int .i64 ek) ∧ X.cell? ⟨W.heap.size, 1, none⟩ = some (.int .i64 ea) ∧ X.cell? ⟨W.heap.size, 2, none⟩ = some (.int .i64 eb) ∧ X.cell? ⟨W.heap.size, 3, none⟩ = some (.int .i64 ec) ∧ X.cell? ⟨W.heap.size, 4, none⟩ = some (.int .i64 ee) ∧ X.cell? ⟨W.heap.size, 5, none⟩ = some (.int .i64 es) ∧ X.cell? ⟨W.heap.size, 6, none⟩ = some (.int .i64 et))) (by kernel_rfl) (KS.out _ (Below.refl _ _).drew) (fun hHeld => ?_)
    obtain ⟨v0, hv0⟩ : ∃ v0, v0 = w1.drew := ⟨_, rfl⟩
    have BL0 : Hid (Below w1.heap.size w1 v0) := by rw [hv0]; exact Below.drew (Below.refl _ _)
    rw [← hv0] at hHeld ⊢
    clear hv0
    refine tkH 0 ?_ rfl ?_ hHeld ?_; rotate_left; (intro w hSw; (try dsimp only at hSw); go_simp; try with_reducible rfl); try simp only [Act.put, zz1, zz2, zz3, zz4, zz5, zz6]
    refine tkH 1 ?_ rfl ?_ hHeld ?_; rotate_left; (intro w hSw; (try dsimp only at hSw); go_simp; try with_reducible rfl); try simp only [Act.put, zz1, zz2, zz3, zz4, zz5, zz6]
    refine tkH 2 ?_ rfl ?_ hHeld ?_; rotate_left; (intro w hSw; (try dsimp only at hSw); go_simp; try with_reducible rfl); try simp only [Act.put, zz1, zz2, zz3, zz4, zz5, zz6]
    refine tkH 3 ?_ rfl ?_ hHeld ?_; rotate_left; (intro w hSw; (try dsimp only at hSw); go_simp; try with_reducible rfl); try simp only [Act.put, zz1, zz2, zz3, zz4, zz5, zz6]
    refine tkH 4 ?_ rfl ?_ hHeld ?_; rotate_left; (intro w hSw; (try dsimp only at hSw); go_simp; try with_reducible rfl); try simp only [Act.put, zz1, zz2, zz3, zz4, zz5, zz6]
    refine wpAnyH_ready (rs := [5, 6]) (by kernel_rfl) (by simp) ?_
    refine AllReadyH.cons (o := _) rfl (fun K0 hK0 => ?_) (AllReadyH.cons (o := _) rfl (fun K0 hK0 => ?_) AllReadyH.nil)
    · go_simp
      refine (ME.out _ (BL0.out)).mono ?_
      rintro e9 v1 ⟨pr, rfl, ho, hb⟩
      go_wp2_with fail
      have BV1 := Lib.hid ((BL0.out).trans (hb.mono (BL0.out).size))
      have OW := Lib.hid ho
      have SV := Lib.hid (show w1.heap.size ≤ v0.heap.size from (BL0.out).size)
      unfold Rp.val
      clear ho hb
      refine hK0.out _ _ (KS.out _ BV1.out) (fun hHeld => ?_)
      clear hK0 K0
      try simp only [Act.put, zz1, zz2, zz3, zz4, zz5, zz6]
      refine wpAnyH_ready (rs := [6]) (by kernel_rfl) (by simp) ?_
      refine AllReadyH.cons (o := _) rfl (fun K0 hK0 => ?_) AllReadyH.nil
      go_simp
      obtain ⟨y1, hy⟩ : ∃ y, y = v1.alloc (.cells #[.int .i64 0, .slice none 0 0, .slice none 0 0, .slice none 0 0, .int .i64 0, .int .i64 0, .slice none 0 0] 61) := ⟨_, rfl⟩
      obtain ⟨bx, hbx⟩ : ∃ b, b = v1.heap.size := ⟨_, rfl⟩
      rw [← hy, ← hbx]
      have ZB := Lib.hid (show y1.heap[bx]? = some (.cells #[.int .i64 0, .slice none 0 0, .slice none 0 0, .slice none 0 0, .int .i64 0, .int .i64 0, .slice none 0 0] 61 (0, 0)) by rw [hy, hbx]; exact heap_alloc_new _ _)
      have ZL := Lib.hid (show w1.heap.size ≤ bx ∧ bx < y1.heap.size by rw [hy, hbx]; simp; exact (BV1.out).size)
      have BY := Lib.hid (show Below w1.heap.size w1 y1 by rw [hy]; exact (BV1.out).alloc (BV1.out).size _)
      have OW := Lib.hid (show ROwn y1 v0.heap.size bx pr mK mn by rw [hbx]; exact OW.out.kep (Kept.of_below (show Below v1.heap.size v1 y1 by rw [hy]; exact below_new _ _) []) (by simp) (by simp) (by simp) (by simp))
      clear hy hbx
      refine hK0.out _ _ (KS.out _ BY.out) (fun hHeld => ?_)
      clear hK0 K0
      try simp only [Act.put, zz1, zz2, zz3, zz4, zz5, zz6]
      refine wpAnyH_ready (rs := [7]) (by kernel_rfl) (by simp) ?_
      refine AllReadyH.cons (o := _) rfl (fun K0 hK0 => ?_) AllReadyH.nil
      clear hHeld
      rw [if_pos (by rfl)]
      refine wp_store_row 61 _ _ rfl (bx) _ rfl rfl 61 _ ZB.out (by kernel_rfl) rfl (by simp [Value.oneCell']) ?_
      refine hK0.out _ _ (KS.out _ (below_setRow (BY.out) ZL.out.1 _)) (fun hHeld => ?_)
      clear hK0 K0
      try simp only [Act.put, zz1, zz2, zz3, zz4, zz5, zz6]
      refine wpAnyH_done (by kernel_rfl) ?_ _
      go_wp2_with fail
      go_meet
      case rel => exact ⟨bx, rfl, ansAt_of ZB.out OW.out (.inr (Nat.le_refl _)) (SV.out) (Nat.le_of_lt ZL.out.2) ZL.out.1 (BY.out)⟩
    · go_simp
      obtain ⟨y0, hy⟩ : ∃ y, y = v0.alloc (.cells #[.int .i64 0, .slice none 0 0, .slice none 0 0, .slice none 0 0, .int .i64 0, .int .i64 0, .slice none 0 0] 61) := ⟨_, rfl⟩
      obtain ⟨bx, hbx⟩ : ∃ b, b = v0.heap.size := ⟨_, rfl⟩
      rw [← hy, ← hbx]
      have ZB := Lib.hid (show y0.heap[bx]? = some (.cells #[.int .i64 0, .slice none 0 0, .slice none 0 0, .slice none 0 0, .int .i64 0, .int .i64 0, .slice none 0 0] 61 (0, 0)) by rw [hy, hbx]; exact heap_alloc_new _ _)
      have ZL := Lib.hid (show w1.heap.size ≤ bx ∧ bx < y0.heap.size by rw [hy, hbx]; simp; exact (BL0.out).size)
      have BY := Lib.hid (show Below w1.heap.size w1 y0 by rw [hy]; exact (BL0.out).alloc (BL0.out).size _)
      have BXL := Lib.hid (show bx < y0.heap.size from ZL.out.2)
      have BX0 := Lib.hid hbx
      clear hy hbx
      refine hK0.out _ _ (KS.out _ BY.out) (fun hHeld => ?_)
      clear hK0 K0
      try simp only [Act.put, zz1, zz2, zz3, zz4, zz5, zz6]
      refine wpAnyH_ready (rs := [5]) (by kernel_rfl) (by simp) ?_
      refine AllReadyH.cons (o := _) rfl (fun K0 hK0 => ?_) AllReadyH.nil
      go_simp
      refine (ME.out _ (BY.out)).mono ?_
      rintro e9 v1 ⟨pr, rfl, ho, hb⟩
      go_wp2_with fail
      have BV1 := Lib.hid ((BY.out).trans (hb.mono (BY.out).size))
      have OW := Lib.hid ho
      have SV := Lib.hid (show w1.heap.size ≤ y0.heap.size from (BY.out).size)
      have ZL := Lib.hid (show w1.heap.size ≤ bx ∧ bx < v1.heap.size by have := ZL.out; have := hb.size; omega)
      have BXL := Lib.hid (show bx < y0.heap.size from BXL.out)
      have ZB := Lib.hid ((hb.block bx BXL.out).trans ZB.out)
      unfold Rp.val
      clear ho hb
      refine hK0.out _ _ (KS.out _ BV1.out) (fun hHeld => ?_)
      clear hK0 K0
      try simp only [Act.put, zz1, zz2, zz3, zz4, zz5, zz6]
      refine wpAnyH_ready (rs := [7]) (by kernel_rfl) (by simp) ?_
      refine AllReadyH.cons (o := _) rfl (fun K0 hK0 => ?_) AllReadyH.nil
      clear hHeld
      rw [if_pos (by rfl)]
      refine wp_store_row 61 _ _ rfl (bx) _ rfl rfl 61 _ ZB.out (by kernel_rfl) rfl (by simp [Value.oneCell']) ?_
      refine hK0.out _ _ (KS.out _ (below_setRow (BV1.out) ZL.out.1 _)) (fun hHeld => ?_)
      clear hK0 K0
      try simp only [Act.put, zz1, zz2, zz3, zz4, zz5, zz6]
      refine wpAnyH_done (by kernel_rfl) ?_ _
      go_wp2_with fail
      go_meet
      case rel => exact ⟨bx, rfl, ansAt_of ZB.out OW.out (.inl BXL.out) (SV.out) (Nat.le_refl _) ZL.out.1 (BV1.out)⟩
  case rest =>
    obtain ⟨wx, hwx⟩ : ∃ wx, wx = wc := ⟨_, rfl⟩
    subst hwx
    obtain ⟨gb, rfl, pr, hx, ho, hd, hg, hb⟩ := hcut
    have J2 := Lib.hid (J.out.below hb)
    have BX := Lib.hid hb
    have PX := Lib.hid hx
    have PO := Lib.hid ho
    have PG := Lib.hid hg
    clear hx ho hd hg hb ME KS
    have X3 : Hid (Below wx.heap.size wx (wx.drew.alloc (.cells #[.int .i64 mq] 2))) := (show Below wx.heap.size wx (wx.drew.alloc _) from (Below.refl wx.heap.size wx).drew.alloc (Nat.le_refl _) _)
    have O3 := Lib.hid (J2.out.oc.below X3.out (Nat.le_refl _))
    have H3 := Lib.hid ((X3.out.block h (Array.getElem?_eq_some_iff.1 J2.out.box).1).trans J2.out.box)
    have NW := Lib.hid (cell_one_new wx.drew (.int .i64 mq) 2)
    have Z3 := Lib.hid (show w.heap.size ≤ (wx.drew.alloc (.cells #[.int .i64 mq] 2)).heap.size by have := J2.out.bw.size; have := X3.out.size; omega)
    have o6 := cell_of_row wx _ 6 _ _ _ J2.out.box
    have f6 := frozen_of_row wx _ 6 _ _ J2.out.box
    have p6 : (wx.alloc (.cells #[.int .i64 mq] 2)).cell? ⟨h, 6, none⟩ = some (.slice A4 k c4) := cell_of_row _ _ 6 _ _ _ H3.out
    have c0 := cell_of_row wx _ 0 _ _ _ PX.out
    simp at o6 c0
    have hk4 := HK.out
    go_upto_region 2 with (fail)
    go_cut [4] from 5 (fun x WV => x = .pointer (some ⟨gb, 0, none⟩) ∧ ∃ AV cV, LoopI w WV h p K AV (k + 1) cV (cs ++ [mq]) A5 m c5 ns ∧ (∀ b, w1.heap.size ≤ b → b < wx.heap.size → WV.heap[b]? = wx.heap[b]?) ∧ (∀ b, AV = some ⟨b, 0, none⟩ → ¬ (w1.heap.size ≤ b ∧ b < wx.heap.size)))
    case first => as_aux_lemma =>
      go_region_law (refine step_append_lies _ rfl (.tmp 15) (.tmp 18) 35 rfl w.heap.size 2 i0 (.int .i64 0) 1 8 Tryz.underlying35 hi0 hz0 hz1 hz2 rfl (by decide) _ k _ rfl O3.out ⟨wx.heap.size, 0, none⟩ 1 1 [.int .i64 mq] rfl rfl NW.out (by simp [Value.oneCell']) (by decide) (by unfold maxLen; omega) (by omega) Z3.out _ rfl ?_; intro g7 cap w7 hown hgrow hat hlt; have K7 := Lib.hid ((hgrow.block h (Array.getElem?_eq_some_iff.1 H3.out).1 (own_ne3 H3.out (by decide) O3.out)).trans H3.out); have y6 := cell_of_row w7 _ 6 _ _ _ K7.out; have f7 := frozen_of_row w7 _ 6 _ _ K7.out; simp at y6; have HO7 := Lib.hid hown; have HG7 := Lib.hid hgrow; have HAT := Lib.hid hat; clear hown hgrow hat hlt)
      all_goals
        go_wp2_with fail
        go_meet
        have ho := HO7.out
        rw [show vals cs ++ [Value.int .i64 mq] = vals (cs ++ [mq]) by simp [vals]] at ho
        have jd : LoopI w wx.drew h p K A4 k c4 cs A5 m c5 ns := J2.out.below (Below.refl _ _).drew
        refine ⟨rfl, _, _, jd.code mq ho HG7.out (HAT.out.imp (fun q => q.symm) (fun q => congrArg some q)), fun b h1 h2 => ?_, fun b e => ?_⟩
        · have hne : b ≠ h := by have := (Array.getElem?_eq_some_iff.1 J.out.box).1; omega
          refine (Below.heap_setCell _ ⟨h, 6, none⟩ _ b hne).trans ((HG7.out.block b (Nat.lt_of_lt_of_le h2 X3.out.size) fun e => ?_).trans (X3.out.block b h2))
          rcases A4 with _ | ad
          · cases e
          · obtain ⟨b', e1, _⟩ := OR.at_ J2.out.oc (by simp)
            injection e1 with e1
            subst e1
            have e2 : b = b' := Option.some.inj e
            have := LW.out b' rfl
            omega
        · have e1 : g7 = b := by injection e with e; injection e
          subst e1
          rcases HAT.out with q | q
          · rcases A4 with _ | ad
            · cases q
            · obtain ⟨b', e1, _⟩ := OR.at_ J2.out.oc (by simp)
              injection e1 with e1
              subst e1
              have e2 : b' = g7 := Option.some.inj q
              have := LW.out b' rfl
              omega
          · have hq : g7 = wx.heap.size + 1 := q.trans (by simp)
            omega
    case rest =>
      obtain ⟨wy, hwy⟩ : ∃ wy, wy = wc := ⟨_, rfl⟩
      subst hwy
      obtain ⟨rfl, AV, cV, hj, hkeep, hap⟩ := hcut
      have J3 := Lib.hid hj
      have GB := Lib.hid ((hkeep gb PG.out.1 PG.out.2).trans PX.out)
      have KP := Lib.hid hkeep
      have AP := Lib.hid hap
      clear hj hkeep hap o6 f6 p6 c0 X3 O3 H3 NW Z3
      have gbk := GB.out
      have g0 := cell_of_row wy _ 0 _ _ _ gbk; have g1 := cell_of_row wy _ 1 _ _ _ gbk; have g2 := cell_of_row wy _ 2 _ _ _ gbk; have g3 := cell_of_row wy _ 3 _ _ _ gbk; have g4 := cell_of_row wy _ 4 _ _ _ gbk; have g5 := cell_of_row wy _ 5 _ _ _ gbk; have g6 := cell_of_row wy _ 6 _ _ _ gbk
      simp at g0 g1 g2 g3 g4 g5 g6
      clear gbk
      by_cases h0 : mq = 0
      case neg =>
        have y : (mq == 0) = false := by simp [h0]
        have E0 : Hid (r3 = (mq, K, [])) := by
          show _ = _
          have hr := RM.out
          by_cases hq : r3.1 = 0
          · rw [if_neg (by simp [hq])] at hr
            rw [← hr] at hq
            exact absurd hq h0
          · rw [if_pos hq] at hr
            have h1 : mq = r3.1 := congrArg Prod.fst hr
            have h2 := RB.out hq
            rw [h1, ← h2]
        go_wp2
        go_end0
        rw [E0.out]
        refine ⟨rfl, p, AV, cV, A5, m, c5, ?_⟩
        rw [List.append_nil]
        exact J3.out
      have E0 : Hid ((0, mK, mn) = r3) := by
        show _ = _
        have hr := RM.out
        by_cases hq : r3.1 = 0
        · rw [if_neg (by simp [hq])] at hr
          rw [← hr, h0]
        · rw [if_pos hq] at hr
          exact absurd ((congrArg Prod.fst hr).symm.trans h0) hq
      subst h0
      rw [← E0.out] at RS
      clear RM RB
      have SK1 : Hid (SK mK ∧ mn.length ≤ 9) := RS.out
      have PN : Hid (pr.n2 = 4 ∧ pr.n3 = 4 ∧ 1 ≤ pr.n1) := by
        have l1 := PO.out.l1; have l2 := PO.out.l2; have l3 := PO.out.l3
        have k2 := SK1.out.1.l2; have k3 := SK1.out.1.l3
        obtain ⟨v1, _⟩ := vf_zero SK1.out.1.v
        show _ ∧ _ ∧ _
        omega
      obtain ⟨A1', n1', c1', A2', n2', c2', A3', n3', c3', An, nn, cn, g1', g2', g3', g4'⟩ := pr
      obtain ⟨hn2, hn3, hn1⟩ := PN.out
      simp only at hn2 hn3 hn1
      subst hn2 hn3
      have OWN : Hid (KOwn wy ⟨A1', n1', c1', A2', c2', A3', c3', g1', g2', g3'⟩ mK) := by
        have po := PO.out
        exact (show KOwn wx ⟨A1', n1', c1', A2', c2', A3', c3', g1', g2', g3'⟩ mK from ⟨po.l1, SK1.out.1.l2, SK1.out.1.l3, po.nil1, po.m1, po.m2, po.m3, po.d12 (show n1' ≠ 0 by omega) (show (4 : Nat) ≠ 0 by decide), po.d13 (show n1' ≠ 0 by omega) (show (4 : Nat) ≠ 0 by decide), po.d23 (show (4 : Nat) ≠ 0 by decide) (show (4 : Nat) ≠ 0 by decide)⟩).keepB (KP.out _ po.b1.1 po.b1.2) (KP.out _ po.b2.1 po.b2.2) (KP.out _ po.b3.1 po.b3.2)
      have J4 := Lib.hid (J3.out.ker (p' := ⟨A1', n1', c1', A2', c2', A3', c3', g1', g2', g3'⟩) OWN.out hn1 (fun b e hh => AP.out b e (by rw [hh]; exact PO.out.b1)) (by
        have h1 := PO.out.b1.1; have h2 := PO.out.b2.1; have h3 := PO.out.b3.1
        have := J.out.bw.size
        simp only at h1 h2 h3 ⊢
        omega))
      have jb := J3.out.box
      have s0 := cell_of_row wy _ 0 _ _ _ jb; have s1 := cell_of_row wy _ 1 _ _ _ jb; have s2 := cell_of_row wy _ 2 _ _ _ jb; have s3 := cell_of_row wy _ 3 _ _ _ jb; have s4 := cell_of_row wy _ 4 _ _ _ jb; have s5 := cell_of_row wy _ 5 _ _ _ jb; have s6 := cell_of_row wy _ 6 _ _ _ jb; have s7 := cell_of_row wy _ 7 _ _ _ jb
      have f0 := frozen_of_row wy _ 0 _ _ jb; have f1 := frozen_of_row wy _ 1 _ _ jb; have f2 := frozen_of_row wy _ 2 _ _ jb; have f3 := frozen_of_row wy _ 3 _ _ jb; have f4 := frozen_of_row wy _ 4 _ _ jb; have f5 := frozen_of_row wy _ 5 _ _ jb; have f6 := frozen_of_row wy _ 6 _ _ jb; have f7 := frozen_of_row wy _ 7 _ _ jb
      simp at s0 s1 s2 s3 s4 s5 s6 s7
      clear jb
      go_upto_region 5 with (fail)
      obtain ⟨wz, hwz⟩ : ∃ wz, wz = (((((wy.setCell ⟨h, 1, none⟩ (.slice A1' n1' c1')).setCell ⟨h, 2, none⟩ (.slice A2' 4 c2')).setCell ⟨h, 3, none⟩ (.slice A3' 4 c3')).setCell ⟨h, 4, none⟩ (.int .i64 mK.tick)).setCell ⟨h, 5, none⟩ (.int .i64 mK.run)) := ⟨_, rfl⟩
      have J5 : Hid (LoopI w wz h ⟨A1', n1', c1', A2', c2', A3', c3', g1', g2', g3'⟩ mK AV (k + 1) cV (cs ++ [0]) A5 m c5 ns) := by rw [hwz]; exact J4.out
      have FZ : Hid (∀ b, b ≠ h → wz.heap[b]? = wy.heap[b]?) := fun b hb => by rw [hwz]; exact ((Below.heap_setCell _ ⟨h, 5, none⟩ _ _ hb).trans ((Below.heap_setCell _ ⟨h, 4, none⟩ _ _ hb).trans ((Below.heap_setCell _ ⟨h, 3, none⟩ _ _ hb).trans ((Below.heap_setCell _ ⟨h, 2, none⟩ _ _ hb).trans ((Below.heap_setCell _ ⟨h, 1, none⟩ _ _ hb).trans rfl)))))
      have HB : Hid (gb ≠ h) := blk_ne GB.out J3.out.box (by decide)
      have GZ := Lib.hid ((FZ.out gb HB.out).trans GB.out)
      have HWZ := Lib.hid hwz
      clear hwz s0 f0 s1 f1 s2 f2 s3 f3 s4 f4 s5 f5 s6 f6 s7 f7 g0 g1 g2 g3 g4 g5 g6 J4
      rw [← HWZ.out]
      clear HWZ
      have gz := GZ.out
      have g6 := cell_of_row wz _ 6 _ _ _ gz
      have jz := J5.out.box
      have s7 := cell_of_row wz _ 7 _ _ _ jz
      have f7 := frozen_of_row wz _ 7 _ _ jz
      simp at g6 s7
      clear gz jz
      have hm3 := HM.out
      have JD : Hid (LoopI w wz.drew h ⟨A1', n1', c1', A2', c2', A3', c3', g1', g2', g3'⟩ mK AV (k + 1) cV (cs ++ [0]) A5 m c5 ns) := J5.out.below (Below.refl _ _).drew
      have OO := Lib.hid JD.out.on
      by_cases hz : nn = 0
      · subst hz
        have M0 : Hid (mn = []) := List.length_eq_zero_iff.1 (by have := PO.out.l4; simp only at this; omega)
        go_region_law (refine step_zero3 rfl (.tmp 34) (.tmp 36) 31 rfl w.heap.size 96 i3 3 Tryz.underlying31 hi3 (.slice A5 m c5) m _ rfl OO.out An cn rfl ?_)
        all_goals
          go_wp2_with fail
          go_end0
          rw [← E0.out]
          exact ⟨rfl, _, AV, cV, A5, m + 0, c5, by rw [M0.out]; exact JD.out.notes (mm := 0) (more := []) (by rw [List.append_nil]; exact JD.out.on) (grown_refl3 _ _) (.inl rfl)⟩
      · have m4 := PO.out.m4
        rcases m4 with m4 | ⟨gx, off, hAn, hlo, hhi, hrow⟩
        · exact absurd (show nn * 3 = 0 from m4) (by omega)
        have hAn : An = some ⟨gx, off, none⟩ := hAn
        subst hAn
        obtain rfl : gx = g4' := by simp only at hlo hhi; omega
        have b4 := PO.out.b4
        have hrow2 : Row wz.drew gx off 96 (nn * 3) (fun k => .int .i64 (gi mn k)) := hrow.keep (show wz.drew.heap[gx]? = wx.heap[gx]? from (FZ.out gx (by
          obtain ⟨cur, e, _⟩ := hrow
          have := (KP.out gx b4.1 b4.2).trans e
          exact blk_ne this J3.out.box (by decide))).trans (KP.out gx b4.1 b4.2))
        have NN : Hid (∀ j u, (vals mn)[j]? = some u → wz.drew.cell? ((⟨gx, off, none⟩ : Addr).add j) = some u) := fun j u hu => by
          have hj : j < mn.length := by have := (List.getElem?_eq_some_iff.1 hu).1; simpa [vals] using this
          rw [vals_get mn j hj] at hu
          injection hu with hu
          subst hu
          rw [Go.WideShapes.add_plain]
          have := PO.out.l4
          simp only at this
          exact hrow2.cell (by omega)
        have ON := Lib.hid (one_vals3 mn)
        have LV : Hid ((vals mn).length = nn * 3) := by show _ = _; simp [vals]; exact PO.out.l4
        have LN : nn ≤ 3 := by have h1 := PO.out.l4; have h2 := SK1.out.2; simp only at h1; omega
        have ZC := Lib.hid (show w.heap.size ≤ wz.drew.heap.size from JD.out.bw.size)
        have HD := Lib.hid JD.out.box
        clear hlo hhi hrow hrow2 b4
        go_region_law (refine step_append_lies _ rfl (.tmp 34) (.tmp 36) 31 rfl w.heap.size 96 i3 (.agg #[.int .i64 0, .int .i64 0, .int .i64 0]) 3 24 Tryz.underlying31 hi3 hy0 hy1 hy2 rfl (by decide) (.slice A5 m c5) m _ rfl OO.out ⟨gx, off, none⟩ nn cn (vals mn) rfl LV.out NN.out ON.out (by omega) (by unfold maxLen; omega) (by omega) ZC.out _ rfl ?_; intro g7 cap w7 hown hgrow hat hlt; have K7 := Lib.hid ((hgrow.block h (Array.getElem?_eq_some_iff.1 HD.out).1 (own_ne3 HD.out (by decide) OO.out)).trans HD.out); have y7 := cell_of_row w7 _ 7 _ _ _ K7.out; have f8 := frozen_of_row w7 _ 7 _ _ K7.out; simp at y7; have HO7 := Lib.hid hown; have HG7 := Lib.hid hgrow; have HAT := Lib.hid hat; clear hown hgrow hat hlt)
        all_goals
          go_wp2_with fail
          go_end0
          have ho := HO7.out
          rw [show vals ns ++ vals mn = vals (ns ++ mn) by simp [vals]] at ho
          rw [← E0.out]
          exact ⟨rfl, _, AV, cV, some ⟨g7, 0, none⟩, m + nn, cap, JD.out.notes ho HG7.out (HAT.out.imp (fun q => q.symm) (fun q => congrArg some q))⟩

end Go.Proofs.YtckapndpefkcgaaGreat
