/-
  The program's RunKernel. No conditions beyond that the events can be read.
-/
import Derived.Deep.RegionLaw
import Derived.Test.YtckapndpefkcgaaGreatDo3
import Derived.Test.YtckapndpefkcgaaGreatDo3t
import Derived.Test.YtckapndpefkcgaaGreatMath3r
import Derived.Test.YtckapndpefkcgaaGreatLoop3
import Derived.Test.YtckapndpefkcgaaGreatNew3
import Derived.Test.YtckapndpefkcgaaGreatSpec3n
import Derived.Test.YtckapndpefkcgaaGreatU8s
import Derived.Test.YtckapndpefkcgaaGreatMuteL9
set_option maxHeartbeats 1000000

namespace Go.Proofs.YtckapndpefkcgaaGreat
open List renaming getElem_toArray → zz1, getElem_cons_succ → zz2, getElem_cons_zero → zz3, setIfInBounds_toArray → zz4, set_cons_zero → zz5, set_cons_succ → zz6
open Go.RowKit
set_option maxRecDepth 100000

theorem kans_at {w W : World} {gb : Nat} {q q' : Int} {K K' : Ker} {ns : List Int} {v1 v2 v3 v6 : Value} (h : AnsAt w gb q K ns W) (hx : W.heap[gb]? = some (.cells #[.int .i64 q', v1, v2, v3, .int .i64 K'.tick, .int .i64 K'.run, v6] 61 (0, 0))) :
    KAns q K ns w (.returned (.agg #[.int .i64 q', v1, v2, v3, .int .i64 K'.tick, .int .i64 K'.run, v6])) W := by
  obtain ⟨p, h1, ho, _, _, hb⟩ := h
  rw [h1] at hx
  injection hx with hx
  injection hx with hx _ _
  exact ⟨p, by rw [← hx]; rfl, ho, hb⟩
theorem run_ek1 (f g : Nat) (w : World) : (Instr.field 143 (.agg #[.func (.func f) #[] #[], .func (.func g) #[] #[]]) 1).run Tryz.prog w = .ok (.func (.func g) #[] #[]) w := by kernel_rfl

set_option maxHeartbeats 4000000 in
theorem meetTick_any (lo hi : Nat) (A1 : Option Addr) (n1 c1 : Nat) (A2 : Option Addr) (n2 c2 : Nat) (A3 : Option Addr) (n3 c3 : Nat) (K : Ker) (k a b c e s t : Int) (w : World) (hn1 : n1 * 8 ≤ 140737488351232) (h : KRead w lo hi A1 n1 A2 n2 A3 n3 K) :
    Calls Tryz.prog 137 #[.agg #[.slice A1 n1 c1, .slice A2 n2 c2, .slice A3 n3 c3, .int .i64 K.tick, .int .i64 K.run], .agg #[.int .i64 k, .int .i64 a, .int .i64 b, .int .i64 c, .int .i64 e, .int .i64 s, .int .i64 t]] w (KAns (dotick K a b).1 (dotick K a b).2.1 (dotick K a b).2.2 w) := by
  obtain ⟨w3, hw3⟩ : ∃ w3, w3 = ((w.alloc (.cells #[.slice A1 n1 c1, .slice A2 n2 c2, .slice A3 n3 c3, .int .i64 K.tick, .int .i64 K.run] 39)).alloc (.cells #[.int .i64 k, .int .i64 a, .int .i64 b, .int .i64 c, .int .i64 e, .int .i64 s, .int .i64 t] 57)).alloc (.cells #[.int .i64 0, .slice none 0 0, .slice none 0 0, .slice none 0 0, .int .i64 0, .int .i64 0, .slice none 0 0] 61) := ⟨_, rfl⟩
  have k1 : w3.heap[w.heap.size]? = some (.cells #[.slice A1 n1 c1, .slice A2 n2 c2, .slice A3 n3 c3, .int .i64 K.tick, .int .i64 K.run] 39 (0, 0)) := by rw [hw3]; exact (Below.heap_alloc _ _ _ (by simp; omega)).trans (heap_alloc2_old w _ _)
  have k2 : w3.heap[w.heap.size + 1]? = some (.cells #[.int .i64 k, .int .i64 a, .int .i64 b, .int .i64 c, .int .i64 e, .int .i64 s, .int .i64 t] 57 (0, 0)) := by rw [hw3]; exact (Below.heap_alloc _ _ _ (by simp)).trans (heap_alloc2_new w _ _)
  have k3 : w3.heap[w.heap.size + 2]? = some (.cells #[.int .i64 0, .slice none 0 0, .slice none 0 0, .slice none 0 0, .int .i64 0, .int .i64 0, .slice none 0 0] 61 (0, 0)) := by
    rw [hw3]
    have := heap_alloc_new ((w.alloc (.cells #[.slice A1 n1 c1, .slice A2 n2 c2, .slice A3 n3 c3, .int .i64 K.tick, .int .i64 K.run] 39)).alloc (.cells #[.int .i64 k, .int .i64 a, .int .i64 b, .int .i64 c, .int .i64 e, .int .i64 s, .int .i64 t] 57)) (.cells #[.int .i64 0, .slice none 0 0, .slice none 0 0, .slice none 0 0, .int .i64 0, .int .i64 0, .slice none 0 0] 61)
    rwa [World.size_alloc, World.size_alloc] at this
  have B3 : Hid (Below w.heap.size w w3) := by rw [hw3]; exact ((below_new w _).alloc (by simp) _).alloc (by simp; omega) _
  have Z3 : Hid (w3.heap.size = w.heap.size + 3) := by show _ = _; rw [hw3]; simp
  have R3 := Lib.hid (h.lt.below B3.out (Nat.min_le_right _ _))
  have K1 := Lib.hid k1; have K2 := Lib.hid k2; have KZ := Lib.hid k3
  have X3 : Hid (BoxN 7 (w.heap.size + 1 + 1) 61 ((w.alloc (.cells #[.slice A1 n1 c1, .slice A2 n2 c2, .slice A3 n3 c3, .int .i64 K.tick, .int .i64 K.run] 39)).alloc (.cells #[.int .i64 k, .int .i64 a, .int .i64 b, .int .i64 c, .int .i64 e, .int .i64 s, .int .i64 t] 57)) w3) := by
    show BoxN _ _ _ _ _
    have := BoxN.new ((w.alloc (.cells #[.slice A1 n1 c1, .slice A2 n2 c2, .slice A3 n3 c3, .int .i64 K.tick, .int .i64 K.run] 39)).alloc (.cells #[.int .i64 k, .int .i64 a, .int .i64 b, .int .i64 c, .int .i64 e, .int .i64 s, .int .i64 t] 57)) #[.int .i64 0, .slice none 0 0, .slice none 0 0, .slice none 0 0, .int .i64 0, .int .i64 0, .slice none 0 0] 61
    rw [World.size_alloc, World.size_alloc] at this
    rw [hw3]
    exact this
  have HW3 := Lib.hid hw3
  clear h hw3 k1 k2 k3
  have KS2 : Hid (∀ W : World, W.heap[w.heap.size]? = some (.cells #[.slice A1 n1 c1, .slice A2 n2 c2, .slice A3 n3 c3, .int .i64 K.tick, .int .i64 K.run] 39 (0, 0)) → W.heap[w.heap.size + 1]? = some (.cells #[.int .i64 k, .int .i64 a, .int .i64 b, .int .i64 c, .int .i64 e, .int .i64 s, .int .i64 t] 57 (0, 0)) → (W.cell? ⟨w.heap.size, 0, none⟩ = some (.slice A1 n1 c1) ∧ W.cell? ⟨w.heap.size, 1, none⟩ = some (.slice A2 n2 c2) ∧ W.cell? ⟨w.heap.size, 2, none⟩ = some (.slice A3 n3 c3) ∧ W.cell? ⟨w.heap.size, 3, none⟩ = some (.int .i64 K.tick) ∧ W.cell? ⟨w.heap.size, 4, none⟩ = some (.int .i64 K.run)) ∧ (W.cell? ⟨w.heap.size + 1, 1, none⟩ = some (.int .i64 a) ∧ W.cell? ⟨w.heap.size + 1, 2, none⟩ = some (.int .i64 b))) := fun W j j2 =>
    ⟨⟨cell_of_row W _ 0 _ _ _ j, cell_of_row W _ 1 _ _ _ j, cell_of_row W _ 2 _ _ _ j, cell_of_row W _ 3 _ _ _ j, cell_of_row W _ 4 _ _ _ j⟩, cell_of_row W _ 1 _ _ _ j2, cell_of_row W _ 2 _ _ _ j2⟩
  have DT : Hid (∀ W, Below w3.heap.size w3 W → Calls Tryz.prog 24 #[.agg #[.slice A1 n1 c1, .slice A2 n2 c2, .slice A3 n3 c3, .int .i64 K.tick, .int .i64 K.run], .agg #[.int .i64 a, .int .i64 b]] W (KAns (dotick K a b).1 (dotick K a b).2.1 (dotick K a b).2.2 W)) := fun W hW =>
    implDoTick_any lo (min hi w.heap.size) A1 n1 c1 A2 n2 c2 A3 n3 c3 K a b W hn1 (R3.out.below hW (by have := Z3.out; omega))
  generalize (dotick K a b).1 = dq at *
  generalize (dotick K a b).2.1 = dK at *
  generalize (dotick K a b).2.2 = dN at *
  go_enter Tryz.func137, Tryz.ntmps137
  go_upto_region 1 with (fail)
  rw [← HW3.out]
  clear HW3
  obtain ⟨⟨q0, q1, q2, q3, q4⟩, e1', e2'⟩ := KS2.out _ K1.out K2.out
  go_wp2_with fail
  refine (DT.out _ (Below.refl _ _)).mono ?_
  rintro e9 w4 ⟨pr, rfl, ho, hb⟩
  have X4 := X3.out.below hb
  have FA := Lib.hid (kans_on (w := w) (q := dq) ho hb X4 (by have := Z3.out; omega) (by omega) B3.out)
  have cc := fun j (hj : j < 7) => X4.cell j hj
  have ff := fun j => X4.frozen j
  have c0 := cc 0 (by omega); have c1' := cc 1 (by omega); have c2' := cc 2 (by omega); have c3' := cc 3 (by omega); have c4 := cc 4 (by omega); have c5 := cc 5 (by omega); have c6 := cc 6 (by omega)
  have f0 := ff 0; have f1 := ff 1; have f2 := ff 2; have f3 := ff 3; have f4 := ff 4; have f5 := ff 5; have f6 := ff 6
  unfold Rp.val
  clear cc ff X4 ho hb DT q0 q1 q2 q3 q4 e1' e2'
  go_wp2
  exact bodyPost_ret (results_cell_row rfl _ _ (w.heap.size + 1 + 1) _ _ (0, 0) _ rfl FA.out.1 Tryz.underlying61 rfl (by kernel_rfl)) rfl FA.out.2

set_option maxHeartbeats 4000000 in
theorem meetCall_any (lo hi : Nat) (A1 : Option Addr) (n1 c1 : Nat) (A2 : Option Addr) (n2 c2 : Nat) (A3 : Option Addr) (n3 c3 : Nat) (K : Ker) (k a b c e s t : Int) (w : World) (hn1 : n1 * 8 ≤ 140737488351232) (h : KRead w lo hi A1 n1 A2 n2 A3 n3 K) :
    Calls Tryz.prog 139 #[.agg #[.slice A1 n1 c1, .slice A2 n2 c2, .slice A3 n3 c3, .int .i64 K.tick, .int .i64 K.run], .agg #[.int .i64 k, .int .i64 a, .int .i64 b, .int .i64 c, .int .i64 e, .int .i64 s, .int .i64 t]] w (KAns (docall K c e s t).1 (docall K c e s t).2 [] w) := by
  obtain ⟨w3, hw3⟩ : ∃ w3, w3 = ((w.alloc (.cells #[.slice A1 n1 c1, .slice A2 n2 c2, .slice A3 n3 c3, .int .i64 K.tick, .int .i64 K.run] 39)).alloc (.cells #[.int .i64 k, .int .i64 a, .int .i64 b, .int .i64 c, .int .i64 e, .int .i64 s, .int .i64 t] 57)).alloc (.cells #[.int .i64 0, .slice none 0 0, .slice none 0 0, .slice none 0 0, .int .i64 0, .int .i64 0, .slice none 0 0] 61) := ⟨_, rfl⟩
  have k1 : w3.heap[w.heap.size]? = some (.cells #[.slice A1 n1 c1, .slice A2 n2 c2, .slice A3 n3 c3, .int .i64 K.tick, .int .i64 K.run] 39 (0, 0)) := by rw [hw3]; exact (Below.heap_alloc _ _ _ (by simp; omega)).trans (heap_alloc2_old w _ _)
  have k2 : w3.heap[w.heap.size + 1]? = some (.cells #[.int .i64 k, .int .i64 a, .int .i64 b, .int .i64 c, .int .i64 e, .int .i64 s, .int .i64 t] 57 (0, 0)) := by rw [hw3]; exact (Below.heap_alloc _ _ _ (by simp)).trans (heap_alloc2_new w _ _)
  have k3 : w3.heap[w.heap.size + 2]? = some (.cells #[.int .i64 0, .slice none 0 0, .slice none 0 0, .slice none 0 0, .int .i64 0, .int .i64 0, .slice none 0 0] 61 (0, 0)) := by
    rw [hw3]
    have := heap_alloc_new ((w.alloc (.cells #[.slice A1 n1 c1, .slice A2 n2 c2, .slice A3 n3 c3, .int .i64 K.tick, .int .i64 K.run] 39)).alloc (.cells #[.int .i64 k, .int .i64 a, .int .i64 b, .int .i64 c, .int .i64 e, .int .i64 s, .int .i64 t] 57)) (.cells #[.int .i64 0, .slice none 0 0, .slice none 0 0, .slice none 0 0, .int .i64 0, .int .i64 0, .slice none 0 0] 61)
    rwa [World.size_alloc, World.size_alloc] at this
  have B3 : Hid (Below w.heap.size w w3) := by rw [hw3]; exact ((below_new w _).alloc (by simp) _).alloc (by simp; omega) _
  have Z3 : Hid (w3.heap.size = w.heap.size + 3) := by show _ = _; rw [hw3]; simp
  have R3 := Lib.hid (h.lt.below B3.out (Nat.min_le_right _ _))
  have K1 := Lib.hid k1; have K2 := Lib.hid k2; have KZ := Lib.hid k3
  have X3 : Hid (BoxN 7 (w.heap.size + 1 + 1) 61 ((w.alloc (.cells #[.slice A1 n1 c1, .slice A2 n2 c2, .slice A3 n3 c3, .int .i64 K.tick, .int .i64 K.run] 39)).alloc (.cells #[.int .i64 k, .int .i64 a, .int .i64 b, .int .i64 c, .int .i64 e, .int .i64 s, .int .i64 t] 57)) w3) := by
    show BoxN _ _ _ _ _
    have := BoxN.new ((w.alloc (.cells #[.slice A1 n1 c1, .slice A2 n2 c2, .slice A3 n3 c3, .int .i64 K.tick, .int .i64 K.run] 39)).alloc (.cells #[.int .i64 k, .int .i64 a, .int .i64 b, .int .i64 c, .int .i64 e, .int .i64 s, .int .i64 t] 57)) #[.int .i64 0, .slice none 0 0, .slice none 0 0, .slice none 0 0, .int .i64 0, .int .i64 0, .slice none 0 0] 61
    rw [World.size_alloc, World.size_alloc] at this
    rw [hw3]
    exact this
  have HW3 := Lib.hid hw3
  clear h hw3 k1 k2 k3
  have KS2 : Hid (∀ W : World, W.heap[w.heap.size]? = some (.cells #[.slice A1 n1 c1, .slice A2 n2 c2, .slice A3 n3 c3, .int .i64 K.tick, .int .i64 K.run] 39 (0, 0)) → W.heap[w.heap.size + 1]? = some (.cells #[.int .i64 k, .int .i64 a, .int .i64 b, .int .i64 c, .int .i64 e, .int .i64 s, .int .i64 t] 57 (0, 0)) → (W.cell? ⟨w.heap.size, 0, none⟩ = some (.slice A1 n1 c1) ∧ W.cell? ⟨w.heap.size, 1, none⟩ = some (.slice A2 n2 c2) ∧ W.cell? ⟨w.heap.size, 2, none⟩ = some (.slice A3 n3 c3) ∧ W.cell? ⟨w.heap.size, 3, none⟩ = some (.int .i64 K.tick) ∧ W.cell? ⟨w.heap.size, 4, none⟩ = some (.int .i64 K.run)) ∧ (W.cell? ⟨w.heap.size + 1, 3, none⟩ = some (.int .i64 c) ∧ W.cell? ⟨w.heap.size + 1, 4, none⟩ = some (.int .i64 e) ∧ W.cell? ⟨w.heap.size + 1, 5, none⟩ = some (.int .i64 s) ∧ W.cell? ⟨w.heap.size + 1, 6, none⟩ = some (.int .i64 t))) := fun W j j2 =>
    ⟨⟨cell_of_row W _ 0 _ _ _ j, cell_of_row W _ 1 _ _ _ j, cell_of_row W _ 2 _ _ _ j, cell_of_row W _ 3 _ _ _ j, cell_of_row W _ 4 _ _ _ j⟩, cell_of_row W _ 3 _ _ _ j2, cell_of_row W _ 4 _ _ _ j2, cell_of_row W _ 5 _ _ _ j2, cell_of_row W _ 6 _ _ _ j2⟩
  have DT : Hid (∀ W, Below w3.heap.size w3 W → Calls Tryz.prog 31 #[.agg #[.slice A1 n1 c1, .slice A2 n2 c2, .slice A3 n3 c3, .int .i64 K.tick, .int .i64 K.run], .agg #[.int .i64 c, .int .i64 e, .int .i64 s, .int .i64 t]] W (KAns (docall K c e s t).1 (docall K c e s t).2 [] W)) := fun W hW =>
    implDoCall_any lo (min hi w.heap.size) A1 n1 c1 A2 n2 c2 A3 n3 c3 K c e s t W hn1 (R3.out.below hW (by have := Z3.out; omega))
  generalize (docall K c e s t).1 = dq at *
  generalize (docall K c e s t).2 = dK at *
  go_enter Tryz.func139, Tryz.ntmps139
  go_upto_region 1 with (fail)
  rw [← HW3.out]
  clear HW3
  obtain ⟨⟨q0, q1, q2, q3, q4⟩, e3', e4', e5', e6'⟩ := KS2.out _ K1.out K2.out
  go_wp2_with fail
  refine (DT.out _ (Below.refl _ _)).mono ?_
  rintro e9 w4 ⟨pr, rfl, ho, hb⟩
  have X4 := X3.out.below hb
  have FA := Lib.hid (kans_on (w := w) (q := dq) ho hb X4 (by have := Z3.out; omega) (by omega) B3.out)
  have cc := fun j (hj : j < 7) => X4.cell j hj
  have ff := fun j => X4.frozen j
  have c0 := cc 0 (by omega); have c1' := cc 1 (by omega); have c2' := cc 2 (by omega); have c3' := cc 3 (by omega); have c4 := cc 4 (by omega); have c5 := cc 5 (by omega); have c6 := cc 6 (by omega)
  have f0 := ff 0; have f1 := ff 1; have f2 := ff 2; have f3 := ff 3; have f4 := ff 4; have f5 := ff 5; have f6 := ff 6
  unfold Rp.val
  clear cc ff X4 ho hb DT q0 q1 q2 q3 q4 e3' e4' e5' e6'
  go_wp2
  exact bodyPost_ret (results_cell_row rfl _ _ (w.heap.size + 1 + 1) _ _ (0, 0) _ rfl FA.out.1 Tryz.underlying61 rfl (by kernel_rfl)) rfl FA.out.2

noncomputable def mev3 (K : Ker) (k a b c e s t : Int) : Int × Ker × List Int :=
  if evf k a b c e s t ≠ 0 then (evf k a b c e s t, zeroKer, []) else if k = 2 then ((docall K c e s t).1, (docall K c e s t).2, []) else dotick K a b
theorem mev3_of {K : Ker} (h : SK K) (ht : K.tick < 100000) (k a b c e s t : Int) : mev3 K k a b c e s t = if (step3 K k a b c e s t).1 ≠ 0 then ((step3 K k a b c e s t).1, zeroKer, []) else step3 K k a b c e s t := by
  have hk := kf_of h
  by_cases h0 : evf k a b c e s t = 0
  · rcases evf_z h0 with ⟨k1, _, hv⟩ | ⟨k2, hc⟩
    · have hne : k ≠ 2 := by omega
      have e1 : step3 K k a b c e s t = (0, (tick3 K a b).1, (tick3 K a b).2) := by unfold step3; rw [if_neg (by simp [h0]), if_neg hne]
      have e2 : mev3 K k a b c e s t = dotick K a b := by unfold mev3; rw [if_neg (by simp [h0]), if_neg hne]
      have e3 : dotick K a b = (0, (tick3 K a b).1, (tick3 K a b).2) := by unfold dotick; rw [if_neg (by simp [hk]), if_neg (by simp [hv]), if_neg (by omega)]
      rw [e1, e2, e3]
      simp
    · have e1 : step3 K k a b c e s t = ((call3 K c e s t).1, (call3 K c e s t).2, []) := by unfold step3; rw [if_neg (by simp [h0]), if_pos k2]
      have e2 : mev3 K k a b c e s t = ((docall K c e s t).1, (docall K c e s t).2, []) := by unfold mev3; rw [if_neg (by simp [h0]), if_pos k2]
      have e3 : docall K c e s t = orZero (call3 K c e s t) := by unfold docall; rw [if_neg (by simp [hk]), if_neg (by simp [hc])]
      rw [e1, e2, e3]
      unfold orZero
      by_cases h1 : (call3 K c e s t).1 = 0
      · simp [h1]
      · simp [h1]
  · have e1 : step3 K k a b c e s t = (evf k a b c e s t, K, []) := by unfold step3; rw [if_pos h0]
    have e2 : mev3 K k a b c e s t = (evf k a b c e s t, zeroKer, []) := by unfold mev3; rw [if_pos h0]
    rw [e1, e2]
    simp [h0]

set_option maxHeartbeats 8000000 in
theorem meetEvent_any (lo hi : Nat) (A1 : Option Addr) (n1 c1 : Nat) (A2 : Option Addr) (n2 c2 : Nat) (A3 : Option Addr) (n3 c3 : Nat) (K : Ker) (k a b c e s t : Int) (w : World) (hn1 : n1 * 8 ≤ 140737488351232) (h : KRead w lo hi A1 n1 A2 n2 A3 n3 K) :
    Calls Tryz.prog 107 #[.agg #[.slice A1 n1 c1, .slice A2 n2 c2, .slice A3 n3 c3, .int .i64 K.tick, .int .i64 K.run], .agg #[.int .i64 k, .int .i64 a, .int .i64 b, .int .i64 c, .int .i64 e, .int .i64 s, .int .i64 t]] w (KAns (mev3 K k a b c e s t).1 (mev3 K k a b c e s t).2.1 (mev3 K k a b c e s t).2.2 w) := by
  obtain ⟨w3, hw3⟩ : ∃ w3, w3 = ((w.alloc (.cells #[.slice A1 n1 c1, .slice A2 n2 c2, .slice A3 n3 c3, .int .i64 K.tick, .int .i64 K.run] 39)).alloc (.cells #[.int .i64 k, .int .i64 a, .int .i64 b, .int .i64 c, .int .i64 e, .int .i64 s, .int .i64 t] 57)).alloc (.cells #[.int .i64 0, .slice none 0 0, .slice none 0 0, .slice none 0 0, .int .i64 0, .int .i64 0, .slice none 0 0] 61) := ⟨_, rfl⟩
  have k1 : w3.heap[w.heap.size]? = some (.cells #[.slice A1 n1 c1, .slice A2 n2 c2, .slice A3 n3 c3, .int .i64 K.tick, .int .i64 K.run] 39 (0, 0)) := by rw [hw3]; exact (Below.heap_alloc _ _ _ (by simp; omega)).trans (heap_alloc2_old w _ _)
  have k2 : w3.heap[w.heap.size + 1]? = some (.cells #[.int .i64 k, .int .i64 a, .int .i64 b, .int .i64 c, .int .i64 e, .int .i64 s, .int .i64 t] 57 (0, 0)) := by rw [hw3]; exact (Below.heap_alloc _ _ _ (by simp)).trans (heap_alloc2_new w _ _)
  have k3 : w3.heap[w.heap.size + 2]? = some (.cells #[.int .i64 0, .slice none 0 0, .slice none 0 0, .slice none 0 0, .int .i64 0, .int .i64 0, .slice none 0 0] 61 (0, 0)) := by
    rw [hw3]
    have := heap_alloc_new ((w.alloc (.cells #[.slice A1 n1 c1, .slice A2 n2 c2, .slice A3 n3 c3, .int .i64 K.tick, .int .i64 K.run] 39)).alloc (.cells #[.int .i64 k, .int .i64 a, .int .i64 b, .int .i64 c, .int .i64 e, .int .i64 s, .int .i64 t] 57)) (.cells #[.int .i64 0, .slice none 0 0, .slice none 0 0, .slice none 0 0, .int .i64 0, .int .i64 0, .slice none 0 0] 61)
    rwa [World.size_alloc, World.size_alloc] at this
  have B3 : Hid (Below w.heap.size w w3) := by rw [hw3]; exact ((below_new w _).alloc (by simp) _).alloc (by simp; omega) _
  have Z3 : Hid (w3.heap.size = w.heap.size + 3) := by show _ = _; rw [hw3]; simp
  have R3 := Lib.hid (h.lt.below B3.out (Nat.min_le_right _ _))
  have K1 := Lib.hid k1; have K2 := Lib.hid k2; have KZ := Lib.hid k3
  have X3 : Hid (BoxN 7 (w.heap.size + 1 + 1) 61 ((w.alloc (.cells #[.slice A1 n1 c1, .slice A2 n2 c2, .slice A3 n3 c3, .int .i64 K.tick, .int .i64 K.run] 39)).alloc (.cells #[.int .i64 k, .int .i64 a, .int .i64 b, .int .i64 c, .int .i64 e, .int .i64 s, .int .i64 t] 57)) w3) := by
    show BoxN _ _ _ _ _
    have := BoxN.new ((w.alloc (.cells #[.slice A1 n1 c1, .slice A2 n2 c2, .slice A3 n3 c3, .int .i64 K.tick, .int .i64 K.run] 39)).alloc (.cells #[.int .i64 k, .int .i64 a, .int .i64 b, .int .i64 c, .int .i64 e, .int .i64 s, .int .i64 t] 57)) #[.int .i64 0, .slice none 0 0, .slice none 0 0, .slice none 0 0, .int .i64 0, .int .i64 0, .slice none 0 0] 61
    rw [World.size_alloc, World.size_alloc] at this
    rw [hw3]
    exact this
  have HW3 := Lib.hid hw3
  clear h hw3 k1 k2 k3
  have EF := Lib.hid (implEventFault_any k a b c e s t w3)
  obtain ⟨q, hq⟩ : ∃ q, q = evf k a b c e s t := ⟨_, rfl⟩
  rw [← hq] at EF
  have HQ := Lib.hid hq
  clear hq
  have e0 := K2.out
  have e0' := cell_of_row w3 _ 0 _ _ _ e0; have e1' := cell_of_row w3 _ 1 _ _ _ e0; have e2' := cell_of_row w3 _ 2 _ _ _ e0; have e3' := cell_of_row w3 _ 3 _ _ _ e0; have e4' := cell_of_row w3 _ 4 _ _ _ e0; have e5' := cell_of_row w3 _ 5 _ _ _ e0; have e6' := cell_of_row w3 _ 6 _ _ _ e0
  simp at e0' e1' e2' e3' e4' e5' e6'
  clear e0
  go_enter Tryz.func107, Tryz.ntmps107
  go_upto_region 1 with (fail)
  rw [← HW3.out]
  clear HW3
  go_wp2_with fail
  refine EF.out.mono ?_
  rintro r w4 ⟨rfl, hb⟩
  have B4 := Lib.hid hb
  have H1 := Lib.hid ((hb.block _ (by have := Z3.out; omega)).trans K1.out)
  have H2 := Lib.hid ((hb.block _ (by have := Z3.out; omega)).trans K2.out)
  have HZ := Lib.hid ((hb.block _ (by have := Z3.out; omega)).trans KZ.out)
  have R4 := Lib.hid (R3.out.below hb (by have := Z3.out; omega))
  have Z4 : Hid (w.heap.size + 3 ≤ w4.heap.size) := by have := Z3.out; have := hb.size; show _ ≤ _; omega
  have BW := Lib.hid (B3.out.trans (hb.mono (by have := Z3.out; omega)))
  clear hb EF R3 K1 K2 KZ B4 B3 e0' e1' e2' e3' e4' e5' e6'
  by_cases h0 : q = 0
  case neg =>
    have y : (q != 0) = true := by simp [h0]
    have EM : Hid (mev3 K k a b c e s t = (q, zeroKer, [])) := by show _ = _; unfold mev3; rw [if_pos (by rw [← HQ.out]; exact h0), ← HQ.out]
    have hz := HZ.out
    have r0 := cell_of_row w4 _ 0 _ _ _ hz; have r1 := cell_of_row w4 _ 1 _ _ _ hz; have r2 := cell_of_row w4 _ 2 _ _ _ hz; have r3 := cell_of_row w4 _ 3 _ _ _ hz; have r4 := cell_of_row w4 _ 4 _ _ _ hz; have r5 := cell_of_row w4 _ 5 _ _ _ hz; have r6 := cell_of_row w4 _ 6 _ _ _ hz
    have f0 := frozen_of_row w4 _ 0 _ _ hz; have f1 := frozen_of_row w4 _ 1 _ _ hz; have f2 := frozen_of_row w4 _ 2 _ _ hz; have f3 := frozen_of_row w4 _ 3 _ _ hz; have f4 := frozen_of_row w4 _ 4 _ _ hz; have f5 := frozen_of_row w4 _ 5 _ _ hz; have f6 := frozen_of_row w4 _ 6 _ _ hz
    simp at r0 r1 r2 r3 r4 r5 r6
    clear hz h0
    go_wp2
    have hx := blk7_set HZ.out (.int .i64 q) (.slice none 0 0) (.slice none 0 0) (.slice none 0 0) (.int .i64 0) (.int .i64 0) (.slice none 0 0)
    exact bodyPost_ret (results_cell_row rfl _ _ (w.heap.size + 2) _ _ (0, 0) _ rfl hx Tryz.underlying61 rfl (by kernel_rfl)) rfl (by rw [EM.out]; exact kans_code (below7 (g := w.heap.size + 2) BW.out (by omega) _ _ _ _ _ _ _) (by simp; have := Z4.out; omega))
  have HV := Lib.hid (show evf k a b c e s t = 0 by rw [← HQ.out]; exact h0)
  subst h0
  clear HQ
  rcases evf_z HV.out with ⟨hk1, _, _⟩ | ⟨hk2, _⟩
  · obtain rfl : k = 1 := hk1
    have EM : Hid (mev3 K 1 a b c e s t = (dotick K a b)) := by
      show _ = _
      unfold mev3
      rw [if_neg (by simp [HV.out]), if_neg (by decide)]
    have E1 : Hid ((mev3 K 1 a b c e s t).1 = (dotick K a b).1) := by show _ = _; rw [EM.out]
    have E2 : Hid ((mev3 K 1 a b c e s t).2.1 = (dotick K a b).2.1) := by show _ = _; rw [EM.out]
    have E3 : Hid ((mev3 K 1 a b c e s t).2.2 = (dotick K a b).2.2) := by show _ = _; rw [EM.out]
    have KS2 : Hid (∀ W : World, W.heap[w.heap.size]? = some (.cells #[.slice A1 n1 c1, .slice A2 n2 c2, .slice A3 n3 c3, .int .i64 K.tick, .int .i64 K.run] 39 (0, 0)) → W.heap[w.heap.size + 1]? = some (.cells #[.int .i64 1, .int .i64 a, .int .i64 b, .int .i64 c, .int .i64 e, .int .i64 s, .int .i64 t] 57 (0, 0)) → (W.cell? ⟨w.heap.size, 0, none⟩ = some (.slice A1 n1 c1) ∧ W.cell? ⟨w.heap.size, 1, none⟩ = some (.slice A2 n2 c2) ∧ W.cell? ⟨w.heap.size, 2, none⟩ = some (.slice A3 n3 c3) ∧ W.cell? ⟨w.heap.size, 3, none⟩ = some (.int .i64 K.tick) ∧ W.cell? ⟨w.heap.size, 4, none⟩ = some (.int .i64 K.run)) ∧ (W.cell? ⟨w.heap.size + 1, 0, none⟩ = some (.int .i64 1) ∧ W.cell? ⟨w.heap.size + 1, 1, none⟩ = some (.int .i64 a) ∧ W.cell? ⟨w.heap.size + 1, 2, none⟩ = some (.int .i64 b) ∧ W.cell? ⟨w.heap.size + 1, 3, none⟩ = some (.int .i64 c) ∧ W.cell? ⟨w.heap.size + 1, 4, none⟩ = some (.int .i64 e) ∧ W.cell? ⟨w.heap.size + 1, 5, none⟩ = some (.int .i64 s) ∧ W.cell? ⟨w.heap.size + 1, 6, none⟩ = some (.int .i64 t))) := fun W j j2 =>
      ⟨⟨cell_of_row W _ 0 _ _ _ j, cell_of_row W _ 1 _ _ _ j, cell_of_row W _ 2 _ _ _ j, cell_of_row W _ 3 _ _ _ j, cell_of_row W _ 4 _ _ _ j⟩, cell_of_row W _ 0 _ _ _ j2, cell_of_row W _ 1 _ _ _ j2, cell_of_row W _ 2 _ _ _ j2, cell_of_row W _ 3 _ _ _ j2, cell_of_row W _ 4 _ _ _ j2, cell_of_row W _ 5 _ _ _ j2, cell_of_row W _ 6 _ _ _ j2⟩
    have MT : Hid (∀ W, Below w4.heap.size w4 W → Calls Tryz.prog 137 #[.agg #[.slice A1 n1 c1, .slice A2 n2 c2, .slice A3 n3 c3, .int .i64 K.tick, .int .i64 K.run], .agg #[.int .i64 1, .int .i64 a, .int .i64 b, .int .i64 c, .int .i64 e, .int .i64 s, .int .i64 t]] W (KAns (dotick K a b).1 (dotick K a b).2.1 (dotick K a b).2.2 W)) := fun W hW =>
      meetTick_any lo (min hi w.heap.size) A1 n1 c1 A2 n2 c2 A3 n3 c3 K 1 a b c e s t W hn1 (R4.out.below hW (by have := Z4.out; omega))
    have fl := run_ek1
    clear EM
    generalize (dotick K a b).1 = dq at *
    generalize (dotick K a b).2.1 = dK at *
    generalize (dotick K a b).2.2 = dN at *
    go_upto_region 4 with (fail)
    refine wp_region_held_drew (S := fun W => (W.cell? ⟨w.heap.size, 0, none⟩ = some (.slice A1 n1 c1) ∧ W.cell? ⟨w.heap.size, 1, none⟩ = some (.slice A2 n2 c2) ∧ W.cell? ⟨w.heap.size, 2, none⟩ = some (.slice A3 n3 c3) ∧ W.cell? ⟨w.heap.size, 3, none⟩ = some (.int .i64 K.tick) ∧ W.cell? ⟨w.heap.size, 4, none⟩ = some (.int .i64 K.run)) ∧ (W.cell? ⟨w.heap.size + 1, 0, none⟩ = some (.int .i64 1) ∧ W.cell? ⟨w.heap.size + 1, 1, none⟩ = some (.int .i64 a) ∧ W.cell? ⟨w.heap.size + 1, 2, none⟩ = some (.int .i64 b) ∧ W.cell? ⟨w.heap.size + 1, 3, none⟩ = some (.int .i64 c) ∧ W.cell? ⟨w.heap.size + 1, 4, none⟩ = some (.int .i64 e) ∧ W.cell? ⟨w.heap.size + 1, 5, none⟩ = some (.int .i64 s) ∧ W.cell? ⟨w.heap.size + 1, 6, none⟩ = some (.int .i64 t))) (by kernel_rfl) (KS2.out _ H1.out H2.out) (fun hHeld => ?_)
    obtain ⟨v0, hv0⟩ : ∃ v0, v0 = w4.drew := ⟨_, rfl⟩
    have BL0 : Hid (Below w4.heap.size w4 v0) := by rw [hv0]; exact Below.drew (Below.refl _ _)
    rw [← hv0] at hHeld ⊢
    clear hv0
    refine tkH 1 ?_ rfl ?_ hHeld ?_; rotate_left; (intro w hSw; (try dsimp only at hSw); go_simp; try with_reducible rfl); try simp only [Act.put, zz1, zz2, zz3, zz4, zz5, zz6]
    refine tkH 2 ?_ rfl ?_ hHeld ?_; rotate_left; (intro w hSw; (try dsimp only at hSw); go_simp; try with_reducible rfl); try simp only [Act.put, zz1, zz2, zz3, zz4, zz5, zz6]
    refine tkH 5 ?_ rfl ?_ hHeld ?_; rotate_left; (intro w hSw; (try dsimp only at hSw); go_simp; try with_reducible rfl); try simp only [Act.put, zz1, zz2, zz3, zz4, zz5, zz6]
    refine tkH 6 ?_ rfl ?_ hHeld ?_; rotate_left; (intro w hSw; (try dsimp only at hSw); go_simp; try with_reducible rfl); try simp only [Act.put, zz1, zz2, zz3, zz4, zz5, zz6]
    refine wpAnyH_ready (rs := [0]) (by kernel_rfl) (by simp) ?_
    refine AllReadyH.cons (o := _) rfl (fun K0 hK0 => ?_) AllReadyH.nil
    go_simp
    refine (eventKinds_any v0).mono ?_
    rintro e9 v1 ⟨rfl, hv1⟩
    have HV1 := Lib.hid hv1
    clear hv1
    go_wp2_with fail
    have BV1 := Lib.hid (show Below w4.heap.size w4 v1 by rw [HV1.out]; exact BL0.out.alloc BL0.out.size _)
    have L1 := eventKinds_look 1 false v1 v0.heap.size (by rw [HV1.out]; exact heap_alloc_new v0 _)
    have kv : ekf 1 = .func (.func 136) #[] #[] := rfl
    have kg : ekg 1 = .func (.func 137) #[] #[] := rfl
    rw [kv, kg] at L1
    simp only [Bool.false_eq_true, if_false] at L1
    clear kv kg HV1
    refine hK0.out _ _ (KS2.out _ ((BV1.out.block _ (by have := Z4.out; omega)).trans H1.out) ((BV1.out.block _ (by have := Z4.out; omega)).trans H2.out)) (fun hHeld => ?_)
    clear hK0 K0
    try simp only [Act.put, zz1, zz2, zz3, zz4, zz5, zz6]
    refine wpAnyH_ready (rs := [3]) (by kernel_rfl) (by simp) ?_
    refine AllReadyH.cons (o := _) rfl (fun K0 hK0 => ?_) AllReadyH.nil
    go_simp
    refine hK0.out _ _ (KS2.out _ ((BV1.out.block _ (by have := Z4.out; omega)).trans H1.out) ((BV1.out.block _ (by have := Z4.out; omega)).trans H2.out)) (fun hHeld => ?_)
    clear hK0 K0
    try simp only [Act.put, zz1, zz2, zz3, zz4, zz5, zz6]
    refine tkH 4 ?_ rfl ?_ hHeld ?_; rotate_left; (intro w hSw; (try dsimp only at hSw); go_simp; try with_reducible rfl); try simp only [Act.put, zz1, zz2, zz3, zz4, zz5, zz6]
    refine wpAnyH_ready (rs := [7]) (by kernel_rfl) (by simp) ?_
    refine AllReadyH.cons (o := _) rfl (fun K0 hK0 => ?_) AllReadyH.nil
    go_simp
    refine (MT.out _ BV1.out).mono ?_
    rintro e9 v2 ⟨pr, rfl, ho, hb⟩
    go_wp2_with fail
    have BV2 := Lib.hid (BV1.out.trans (hb.mono BV1.out.size))
    have ZB := Lib.hid ((BV2.out.block (w.heap.size + 2) (by have := Z4.out; omega)).trans HZ.out)
    have OW := Lib.hid ho
    have SV := Lib.hid (show w4.heap.size ≤ v1.heap.size from BV1.out.size)
    unfold Rp.val
    clear ho hb
    refine hK0.out _ _ (KS2.out _ ((BV2.out.block _ (by have := Z4.out; omega)).trans H1.out) ((BV2.out.block _ (by have := Z4.out; omega)).trans H2.out)) (fun hHeld => ?_)
    clear hK0 K0
    try simp only [Act.put, zz1, zz2, zz3, zz4, zz5, zz6]
    refine wpAnyH_ready (rs := [8]) (by kernel_rfl) (by simp) ?_
    refine AllReadyH.cons (o := _) rfl (fun K0 hK0 => ?_) AllReadyH.nil
    clear hHeld
    rw [if_pos (by rfl)]
    refine wp_store_row 61 _ _ rfl ((w.heap.size + 2)) _ rfl rfl 61 _ ZB.out (by kernel_rfl) rfl (by simp [Value.oneCell']) ?_
    refine hK0.out _ _ (KS2.out _ ((setRow_other _ _ _ _ (by omega)).trans ((BV2.out.block _ (by have := Z4.out; omega)).trans H1.out)) ((setRow_other _ _ _ _ (by omega)).trans ((BV2.out.block _ (by have := Z4.out; omega)).trans H2.out))) (fun hHeld => ?_)
    clear hK0 K0
    try simp only [Act.put, zz1, zz2, zz3, zz4, zz5, zz6]
    refine wpAnyH_done (by kernel_rfl) ?_ _
    go_wp2_with fail
    have AT := ansAt_of (w := w) (K := dK) (q := dq) ZB.out OW.out (.inl (by have := SV.out; have := Z4.out; omega)) (by have := SV.out; have := Z4.out; omega) (Nat.le_refl _) (by omega) (BW.out.trans (BV2.out.mono (by have := Z4.out; omega)))
    exact bodyPost_ret (results_cell_row rfl _ _ (w.heap.size + 2) _ _ (0, 0) _ rfl (setRow_heap _ _ _ _ _ _ ZB.out) Tryz.underlying61 rfl (by kernel_rfl)) rfl (by rw [E1.out, E2.out, E3.out]; exact kans_at AT (setRow_heap _ _ _ _ _ _ ZB.out))
  · obtain rfl : k = 2 := hk2
    have EM : Hid (mev3 K 2 a b c e s t = (((docall K c e s t).1, (docall K c e s t).2, []))) := by
      show _ = _
      unfold mev3
      rw [if_neg (by simp [HV.out]), if_pos rfl]
    have E1 : Hid ((mev3 K 2 a b c e s t).1 = (docall K c e s t).1) := by show _ = _; rw [EM.out]
    have E2 : Hid ((mev3 K 2 a b c e s t).2.1 = (docall K c e s t).2) := by show _ = _; rw [EM.out]
    have E3 : Hid ((mev3 K 2 a b c e s t).2.2 = []) := by show _ = _; rw [EM.out]
    have KS2 : Hid (∀ W : World, W.heap[w.heap.size]? = some (.cells #[.slice A1 n1 c1, .slice A2 n2 c2, .slice A3 n3 c3, .int .i64 K.tick, .int .i64 K.run] 39 (0, 0)) → W.heap[w.heap.size + 1]? = some (.cells #[.int .i64 2, .int .i64 a, .int .i64 b, .int .i64 c, .int .i64 e, .int .i64 s, .int .i64 t] 57 (0, 0)) → (W.cell? ⟨w.heap.size, 0, none⟩ = some (.slice A1 n1 c1) ∧ W.cell? ⟨w.heap.size, 1, none⟩ = some (.slice A2 n2 c2) ∧ W.cell? ⟨w.heap.size, 2, none⟩ = some (.slice A3 n3 c3) ∧ W.cell? ⟨w.heap.size, 3, none⟩ = some (.int .i64 K.tick) ∧ W.cell? ⟨w.heap.size, 4, none⟩ = some (.int .i64 K.run)) ∧ (W.cell? ⟨w.heap.size + 1, 0, none⟩ = some (.int .i64 2) ∧ W.cell? ⟨w.heap.size + 1, 1, none⟩ = some (.int .i64 a) ∧ W.cell? ⟨w.heap.size + 1, 2, none⟩ = some (.int .i64 b) ∧ W.cell? ⟨w.heap.size + 1, 3, none⟩ = some (.int .i64 c) ∧ W.cell? ⟨w.heap.size + 1, 4, none⟩ = some (.int .i64 e) ∧ W.cell? ⟨w.heap.size + 1, 5, none⟩ = some (.int .i64 s) ∧ W.cell? ⟨w.heap.size + 1, 6, none⟩ = some (.int .i64 t))) := fun W j j2 =>
      ⟨⟨cell_of_row W _ 0 _ _ _ j, cell_of_row W _ 1 _ _ _ j, cell_of_row W _ 2 _ _ _ j, cell_of_row W _ 3 _ _ _ j, cell_of_row W _ 4 _ _ _ j⟩, cell_of_row W _ 0 _ _ _ j2, cell_of_row W _ 1 _ _ _ j2, cell_of_row W _ 2 _ _ _ j2, cell_of_row W _ 3 _ _ _ j2, cell_of_row W _ 4 _ _ _ j2, cell_of_row W _ 5 _ _ _ j2, cell_of_row W _ 6 _ _ _ j2⟩
    have MT : Hid (∀ W, Below w4.heap.size w4 W → Calls Tryz.prog 139 #[.agg #[.slice A1 n1 c1, .slice A2 n2 c2, .slice A3 n3 c3, .int .i64 K.tick, .int .i64 K.run], .agg #[.int .i64 2, .int .i64 a, .int .i64 b, .int .i64 c, .int .i64 e, .int .i64 s, .int .i64 t]] W (KAns (docall K c e s t).1 (docall K c e s t).2 [] W)) := fun W hW =>
      meetCall_any lo (min hi w.heap.size) A1 n1 c1 A2 n2 c2 A3 n3 c3 K 2 a b c e s t W hn1 (R4.out.below hW (by have := Z4.out; omega))
    have fl := run_ek1
    clear EM
    generalize (docall K c e s t).1 = dq at *
    generalize (docall K c e s t).2 = dK at *
    go_upto_region 4 with (fail)
    refine wp_region_held_drew (S := fun W => (W.cell? ⟨w.heap.size, 0, none⟩ = some (.slice A1 n1 c1) ∧ W.cell? ⟨w.heap.size, 1, none⟩ = some (.slice A2 n2 c2) ∧ W.cell? ⟨w.heap.size, 2, none⟩ = some (.slice A3 n3 c3) ∧ W.cell? ⟨w.heap.size, 3, none⟩ = some (.int .i64 K.tick) ∧ W.cell? ⟨w.heap.size, 4, none⟩ = some (.int .i64 K.run)) ∧ (W.cell? ⟨w.heap.size + 1, 0, none⟩ = some (.int .i64 2) ∧ W.cell? ⟨w.heap.size + 1, 1, none⟩ = some (.int .i64 a) ∧ W.cell? ⟨w.heap.size + 1, 2, none⟩ = some (.int .i64 b) ∧ W.cell? ⟨w.heap.size + 1, 3, none⟩ = some (.int .i64 c) ∧ W.cell? ⟨w.heap.size + 1, 4, none⟩ = some (.int .i64 e) ∧ W.cell? ⟨w.heap.size + 1, 5, none⟩ = some (.int .i64 s) ∧ W.cell? ⟨w.heap.size + 1, 6, none⟩ = some (.int .i64 t))) (by kernel_rfl) (KS2.out _ H1.out H2.out) (fun hHeld => ?_)
    obtain ⟨v0, hv0⟩ : ∃ v0, v0 = w4.drew := ⟨_, rfl⟩
    have BL0 : Hid (Below w4.heap.size w4 v0) := by rw [hv0]; exact Below.drew (Below.refl _ _)
    rw [← hv0] at hHeld ⊢
    clear hv0
    refine tkH 1 ?_ rfl ?_ hHeld ?_; rotate_left; (intro w hSw; (try dsimp only at hSw); go_simp; try with_reducible rfl); try simp only [Act.put, zz1, zz2, zz3, zz4, zz5, zz6]
    refine tkH 2 ?_ rfl ?_ hHeld ?_; rotate_left; (intro w hSw; (try dsimp only at hSw); go_simp; try with_reducible rfl); try simp only [Act.put, zz1, zz2, zz3, zz4, zz5, zz6]
    refine tkH 5 ?_ rfl ?_ hHeld ?_; rotate_left; (intro w hSw; (try dsimp only at hSw); go_simp; try with_reducible rfl); try simp only [Act.put, zz1, zz2, zz3, zz4, zz5, zz6]
    refine tkH 6 ?_ rfl ?_ hHeld ?_; rotate_left; (intro w hSw; (try dsimp only at hSw); go_simp; try with_reducible rfl); try simp only [Act.put, zz1, zz2, zz3, zz4, zz5, zz6]
    refine wpAnyH_ready (rs := [0]) (by kernel_rfl) (by simp) ?_
    refine AllReadyH.cons (o := _) rfl (fun K0 hK0 => ?_) AllReadyH.nil
    go_simp
    refine (eventKinds_any v0).mono ?_
    rintro e9 v1 ⟨rfl, hv1⟩
    have HV1 := Lib.hid hv1
    clear hv1
    go_wp2_with fail
    have BV1 := Lib.hid (show Below w4.heap.size w4 v1 by rw [HV1.out]; exact BL0.out.alloc BL0.out.size _)
    have L1 := eventKinds_look 2 false v1 v0.heap.size (by rw [HV1.out]; exact heap_alloc_new v0 _)
    have kv : ekf 2 = .func (.func 138) #[] #[] := rfl
    have kg : ekg 2 = .func (.func 139) #[] #[] := rfl
    rw [kv, kg] at L1
    simp only [Bool.false_eq_true, if_false] at L1
    clear kv kg HV1
    refine hK0.out _ _ (KS2.out _ ((BV1.out.block _ (by have := Z4.out; omega)).trans H1.out) ((BV1.out.block _ (by have := Z4.out; omega)).trans H2.out)) (fun hHeld => ?_)
    clear hK0 K0
    try simp only [Act.put, zz1, zz2, zz3, zz4, zz5, zz6]
    refine wpAnyH_ready (rs := [3]) (by kernel_rfl) (by simp) ?_
    refine AllReadyH.cons (o := _) rfl (fun K0 hK0 => ?_) AllReadyH.nil
    go_simp
    refine hK0.out _ _ (KS2.out _ ((BV1.out.block _ (by have := Z4.out; omega)).trans H1.out) ((BV1.out.block _ (by have := Z4.out; omega)).trans H2.out)) (fun hHeld => ?_)
    clear hK0 K0
    try simp only [Act.put, zz1, zz2, zz3, zz4, zz5, zz6]
    refine tkH 4 ?_ rfl ?_ hHeld ?_; rotate_left; (intro w hSw; (try dsimp only at hSw); go_simp; try with_reducible rfl); try simp only [Act.put, zz1, zz2, zz3, zz4, zz5, zz6]
    refine wpAnyH_ready (rs := [7]) (by kernel_rfl) (by simp) ?_
    refine AllReadyH.cons (o := _) rfl (fun K0 hK0 => ?_) AllReadyH.nil
    go_simp
    refine (MT.out _ BV1.out).mono ?_
    rintro e9 v2 ⟨pr, rfl, ho, hb⟩
    go_wp2_with fail
    have BV2 := Lib.hid (BV1.out.trans (hb.mono BV1.out.size))
    have ZB := Lib.hid ((BV2.out.block (w.heap.size + 2) (by have := Z4.out; omega)).trans HZ.out)
    have OW := Lib.hid ho
    have SV := Lib.hid (show w4.heap.size ≤ v1.heap.size from BV1.out.size)
    unfold Rp.val
    clear ho hb
    refine hK0.out _ _ (KS2.out _ ((BV2.out.block _ (by have := Z4.out; omega)).trans H1.out) ((BV2.out.block _ (by have := Z4.out; omega)).trans H2.out)) (fun hHeld => ?_)
    clear hK0 K0
    try simp only [Act.put, zz1, zz2, zz3, zz4, zz5, zz6]
    refine wpAnyH_ready (rs := [8]) (by kernel_rfl) (by simp) ?_
    refine AllReadyH.cons (o := _) rfl (fun K0 hK0 => ?_) AllReadyH.nil
    clear hHeld
    rw [if_pos (by rfl)]
    refine wp_store_row 61 _ _ rfl ((w.heap.size + 2)) _ rfl rfl 61 _ ZB.out (by kernel_rfl) rfl (by simp [Value.oneCell']) ?_
    refine hK0.out _ _ (KS2.out _ ((setRow_other _ _ _ _ (by omega)).trans ((BV2.out.block _ (by have := Z4.out; omega)).trans H1.out)) ((setRow_other _ _ _ _ (by omega)).trans ((BV2.out.block _ (by have := Z4.out; omega)).trans H2.out))) (fun hHeld => ?_)
    clear hK0 K0
    try simp only [Act.put, zz1, zz2, zz3, zz4, zz5, zz6]
    refine wpAnyH_done (by kernel_rfl) ?_ _
    go_wp2_with fail
    have AT := ansAt_of (w := w) (K := dK) (q := dq) ZB.out OW.out (.inl (by have := SV.out; have := Z4.out; omega)) (by have := SV.out; have := Z4.out; omega) (Nat.le_refl _) (by omega) (BW.out.trans (BV2.out.mono (by have := Z4.out; omega)))
    exact bodyPost_ret (results_cell_row rfl _ _ (w.heap.size + 2) _ _ (0, 0) _ rfl (setRow_heap _ _ _ _ _ _ ZB.out) Tryz.underlying61 rfl (by kernel_rfl)) rfl (by rw [E1.out, E2.out, E3.out]; exact kans_at AT (setRow_heap _ _ _ _ _ _ ZB.out))



theorem LoopI.ker {w W : World} {h : Nat} {p : Kp} {K : Ker} {A4 : Option Addr} {k c4 : Nat} {cs : List Int} {A5 : Option Addr} {m c5 : Nat} {ns : List Int} (J : LoopI w W h p K A4 k c4 cs A5 m c5 ns) {p' : Kp} {K' : Ker} (own : KOwn W p' K') (n1 : 1 ≤ p'.n1) (ap : ∀ b, A4 = some ⟨b, 0, none⟩ → b ≠ p'.g1) (lo : w.heap.size ≤ p'.g1 ∧ w.heap.size ≤ p'.g2 ∧ w.heap.size ≤ p'.g3) :
    LoopI w (((((W.setCell ⟨h, 1, none⟩ (.slice p'.A1 p'.n1 p'.c1)).setCell ⟨h, 2, none⟩ (.slice p'.A2 4 p'.c2)).setCell ⟨h, 3, none⟩ (.slice p'.A3 4 p'.c3)).setCell ⟨h, 4, none⟩ (.int .i64 K'.tick)).setCell ⟨h, 5, none⟩ (.int .i64 K'.run)) h p' K' A4 k c4 cs A5 m c5 ns := by
  obtain ⟨x1, hx1⟩ := mine_blk own.m1 (by omega)
  obtain ⟨x2, hx2⟩ := mine_blk own.m2 (by decide)
  obtain ⟨x3, hx3⟩ := mine_blk own.m3 (by decide)
  have S : ∀ b, b ≠ h → (((((W.setCell ⟨h, 1, none⟩ (.slice p'.A1 p'.n1 p'.c1)).setCell ⟨h, 2, none⟩ (.slice p'.A2 4 p'.c2)).setCell ⟨h, 3, none⟩ (.slice p'.A3 4 p'.c3)).setCell ⟨h, 4, none⟩ (.int .i64 K'.tick)).setCell ⟨h, 5, none⟩ (.int .i64 K'.run)).heap[b]? = W.heap[b]? := fun b hb => ((Below.heap_setCell _ ⟨h, 5, none⟩ _ _ hb).trans ((Below.heap_setCell _ ⟨h, 4, none⟩ _ _ hb).trans ((Below.heap_setCell _ ⟨h, 3, none⟩ _ _ hb).trans ((Below.heap_setCell _ ⟨h, 2, none⟩ _ _ hb).trans ((Below.heap_setCell _ ⟨h, 1, none⟩ _ _ hb).trans rfl)))))
  refine ⟨own.keepB (S _ (blk_ne hx1 J.box (by decide))) (S _ (blk_ne hx2 J.box (by decide))) (S _ (blk_ne hx3 J.box (by decide))), n1, (heap_setCell_same _ _ 5 _ _ _ (heap_setCell_same _ _ 4 _ _ _ (heap_setCell_same _ _ 3 _ _ _ (heap_setCell_same _ _ 2 _ _ _ (heap_setCell_same _ _ 1 _ _ _ J.box))))), J.oc.keepAll fun b e => ?_, J.on.keepAll fun b e => ?_, ap, ⟨J.lo.1, lo⟩, (((((J.bw.setCell (p := ⟨h, 1, none⟩) J.lo.1 _).setCell (p := ⟨h, 2, none⟩) J.lo.1 _).setCell (p := ⟨h, 3, none⟩) J.lo.1 _).setCell (p := ⟨h, 4, none⟩) J.lo.1 _).setCell (p := ⟨h, 5, none⟩) J.lo.1 _)⟩
  · have hoc := J.oc
    rw [e] at hoc
    obtain ⟨_, hx⟩ := or_blk hoc
    exact S _ (blk_ne hx J.box (by decide))
  · have hoc := J.on
    rw [e] at hoc
    obtain ⟨_, hx⟩ := or_blk hoc
    exact S _ (blk_ne hx J.box (by decide))
theorem run_append_zero3 {P : Program} {w : World} (base : Nat) (t ty e : TypeId) (i : TypeInfo) (size : Nat) (ht : P.underlying t = some (.slice e)) (hi : P.info? e = some i)
    (v : Value) (n : Nat) (xs : List Value) (hown : w.ownsRow base e size v n xs) (ad : Option Addr) (c : Nat) :
    (Builtin.append_ #[t, t] ty #[v, .slice ad 0 c]).run P w = .ok v w := by
  rcases ad with _ | ad
  · rcases hown.2 with ⟨rfl, rfl⟩ | ⟨g, cap, cur, rfl, _, _, hnc, _⟩
    · simp [Builtin.append_, run_underlying ht, sizeOf, typeInfo, hi, Builtin.lenOf, Builtin.firstCells]
    · simp [Builtin.append_, run_underlying ht, sizeOf, typeInfo, hi, Builtin.lenOf, Builtin.firstCells, hnc, storeCells]
  · rcases hown.2 with ⟨rfl, rfl⟩ | ⟨g, cap, cur, rfl, _, _, hnc, _⟩
    · simp [Builtin.append_, run_underlying ht, sizeOf, typeInfo, hi, Builtin.lenOf, Builtin.firstCells, loadCells, loadCellsFrom]
    · simp [Builtin.append_, run_underlying ht, sizeOf, typeInfo, hi, Builtin.lenOf, Builtin.firstCells, hnc, storeCells, loadCells, loadCellsFrom]
theorem step_zero3 {P : Program} {w : World} {ops : Array Oper} {o : Oper} {a : Act} {K : Act → World → Prop} {Q : Exit → Act → World → Prop} {E : Prop} (hgd : o.guard = none) (s x : Operand) (t : TypeId)
    (ho : o.op = .call { callee := .builtin .append, args := #[s, x], argTypes := #[t, t] })
    (base : Nat) (e : TypeId) (i : TypeInfo) (size : Nat) (ht : P.underlying t = some (.slice e)) (hi : P.info? e = some i)
    (v : Value) (n : Nat) (xs : List Value) (hs : a.eval s = v) (hown : w.ownsRow base e size v n xs) (ad : Option Addr) (c : Nat) (hx : a.eval x = .slice ad 0 c)
    (h : K (a.put o.dst v) w) : if Region.wanted o (yielded ops a.tmps) = true then Oper.wp P o a w K Q else E := by
  have hw : Region.wanted o (yielded ops a.tmps) = true := by simp [Region.wanted, hgd]
  have hrun := run_append_zero3 (P := P) (w := w) base t o.type e i size ht hi v n xs hown ad c
  rw [if_pos hw]
  unfold Oper.wp
  simp [execOp, ho, resolve, invoke, builtin, hs, hx, hrun, Result.andThen]
  exact h
theorem KOwn.read3 {w : World} {p : Kp} {K : Ker} (h : KOwn w p K) (h1 : p.g1 < w.heap.size) (h2 : p.g2 < w.heap.size) (h3 : p.g3 < w.heap.size) : KRead w 0 w.heap.size p.A1 p.n1 p.A2 4 p.A3 4 K :=
  ⟨⟨h.l1, h.l2, h.l3⟩, h.m1.sl.wide (Nat.zero_le _) (by omega), h.m2.sl.wide (Nat.zero_le _) (by omega), h.m3.sl.wide (Nat.zero_le _) (by omega)⟩

end Go.Proofs.YtckapndpefkcgaaGreat
