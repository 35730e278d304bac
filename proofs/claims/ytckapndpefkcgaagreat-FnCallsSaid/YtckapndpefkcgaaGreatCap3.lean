/-
  The model's l3Call, l3Event and l3New leave the accounts' room as it was.
-/
import Derived.Test.YtckapndpefkcgaaGreatSpec3x
import Derived.Test.YtckapndpefkcgaaGreatMath3r
import Derived.Test.YtckapndpefkcgaaGreatLoop3
import Derived.Test.YtckapndpefkcgaaGreatSpec3n
set_option maxHeartbeats 1000000
namespace Go.Proofs.YtckapndpefkcgaaGreat
open Go.RowKit
set_option maxRecDepth 100000

def Kp.r3 (p : Kp) : Nat × Nat × Nat := (p.g3, p.c3, p.c2)
def Kp.cap4 (p : Kp) : Prop := p.c3 = 4 ∧ p.c2 = 4

set_option maxHeartbeats 2000000 in
theorem l3CallC_any (g gc oc : Nat) (p : Kp) (K : Ker) (k e s t : Int) (w : World) (h : KB w g p K)
    (c0 : w.cell? ⟨gc, oc, none⟩ = some (.int .i64 k)) (c1 : w.cell? ⟨gc, oc + 1, none⟩ = some (.int .i64 e)) (c2 : w.cell? ⟨gc, oc + 2, none⟩ = some (.int .i64 s)) (c3 : w.cell? ⟨gc, oc + 3, none⟩ = some (.int .i64 t))
    (dg : gc ≠ g) (d2 : gc ≠ p.g2) (d3 : gc ≠ p.g3) (hv : vf K.os = 0) (hcf : cf k e s t = 0) :
    Calls Tryz.prog 87 #[.pointer (some ⟨g, 0, none⟩), .pointer (some ⟨gc, oc, none⟩)] w fun r w' => ∃ p' : Kp, r = .returned (.int .i64 (call3 K k e s t).1) ∧ KB w' g p' (call3 K k e s t).2 ∧
      (p'.g1 = p.g1 ∨ w.heap.size ≤ p'.g1 ∧ p'.g1 < w'.heap.size) ∧ p'.g2 = p.g2 ∧ p'.r3 = p.r3 ∧ Kept [g, p.g2, p.g3] w w' := by
  obtain ⟨hk, he, ht, hs⟩ := cf_zero hcf
  clear hcf
  obtain ⟨ee, rfl⟩ : ∃ e' : Nat, e = (e' : Int) := ⟨e.toNat, by omega⟩
  have he4 : ee < 4 := by omega
  have he0 : (0 : Int) ≤ (ee : Int) := by omega
  have heI : (ee : Int) < 4 := by omega
  have HK := Lib.hid h
  have HV := Lib.hid hv
  obtain ⟨q0, q1, q2, q3, q4⟩ := h.cells
  obtain ⟨o2, hA2, r2⟩ := h.alive
  rw [hA2] at q1
  have a0 := r2.cell he4
  have y0 := r2.frozen (o2 + ee)
  have HR2 := Lib.hid r2
  have gl := h.lt
  have gcl : gc < w.heap.size := World.block_lt_of_cell? _ _ c0
  clear h hv r2 he
  have hto : ((ee : Int)).toNat = ee := rfl
  by_cases k1 : k = 1
  · subst k1
    cases ha : gb K.al ee
    · rw [ha] at a0
      have HC : Hid (call3 K 1 ee s t = (0, { K with al := K.al.set ee true })) := by show _ = _; unfold call3; rw [if_pos rfl, hto, ha]; rfl
      go_enter Tryz.func87, Tryz.ntmps87
      go_wp2_with fail
      go_quiet (fail)
      obtain ⟨w1, hw1⟩ : ∃ w1, w1 = w.drewN nq := ⟨_, rfl⟩
      rw [← hw1]
      have Xw1 : Kept [] w w1 := by rw [hw1]; exact (Kept.refl [] w).drewN nq
      clear hw1
      have Kw1 := Lib.hid (HK.out.kept Xw1 (by simp) (by simp) (by simp) (by simp))
      have hbw1 : ∀ b, b < w.heap.size → w1.heap[b]? = w.heap[b]? := fun b hb => Xw1.2 b hb (by simp)
      have c0 := (World.cell?_of_block (a := ⟨gc, oc, none⟩) (hbw1 gc gcl)).trans c0
      have c1 := (World.cell?_of_block (a := ⟨gc, oc + 1, none⟩) (hbw1 gc gcl)).trans c1
      have c2 := (World.cell?_of_block (a := ⟨gc, oc + 2, none⟩) (hbw1 gc gcl)).trans c2
      have c3 := (World.cell?_of_block (a := ⟨gc, oc + 3, none⟩) (hbw1 gc gcl)).trans c3
      obtain ⟨q0, q1, q2, q3, q4⟩ := Kw1.out.cells
      rw [hA2] at q1
      have a0 := (World.cell?_of_block (a := ⟨p.g2, o2 + ee, none⟩) (hbw1 p.g2 HR2.out.lt)).trans a0
      have y0 : w1.frozen? ⟨p.g2, o2 + ee, none⟩ = false := (HR2.out.keep (hbw1 p.g2 HR2.out.lt)).frozen _
      clear hbw1
      go_wp2_with fail
      first | go_region | fail
      go_wp2
      go_ret
      rw [HC.out]
      exact ⟨p, rfl, (Kw1.out.setAlive hA2 he4 true).drew, .inl rfl, rfl, rfl, (((Kept.refl _ w).trans (Xw1.mono (by simp))).setCell (p := ⟨p.g2, o2 + ee, none⟩) (by simp) _).drew⟩
    · rw [ha] at a0
      have HC : Hid (call3 K 1 ee s t = (6, K)) := by show _ = _; unfold call3; rw [if_pos rfl, hto, if_pos ha]
      go_enter Tryz.func87, Tryz.ntmps87
      go_wp2_with fail
      go_quiet (fail)
      go_wp2
      go_ret
      rw [HC.out]
      exact ⟨p, rfl, HK.out.kept ((Kept.refl [] w).drewN _) (by simp) (by simp) (by simp) (by simp), .inl rfl, rfl, rfl, (Kept.refl _ w).drewN _⟩
  have gl2 := HK.out.lt2
  have v12 := vf_zero HV.out
  have gl1 := HK.out.lt1 (by have := HK.out.own.l1; have := v12.1; omega)
  cases ha : gb K.al ee
  · rw [ha] at a0
    have HC : Hid (call3 K k ee s t = (4, K)) := by show _ = _; unfold call3; rw [if_neg k1, hto, if_pos ha]
    have k1a : (k == 1) = false := by simp [k1]
    go_enter Tryz.func87, Tryz.ntmps87
    go_wp2_with fail
    go_quiet (fail)
    go_wp2
    go_ret
    rw [HC.out]
    exact ⟨p, rfl, HK.out.kept ((Kept.refl [] w).drewN _) (by simp) (by simp) (by simp) (by simp), .inl rfl, rfl, rfl, (Kept.refl _ w).drewN _⟩
  rw [ha] at a0
  have k5 : k = 2 ∨ k = 3 ∨ k = 4 ∨ k = 5 := by omega
  clear k1
  rcases k5 with rfl | rfl | rfl | rfl
  · go_enter Tryz.func87, Tryz.ntmps87
    go_wp2_with fail
    go_quiet (fail)
    obtain ⟨wq, hwq⟩ : ∃ wq, wq = w.drewN nq := ⟨_, rfl⟩
    rw [← hwq]
    have Xwq : Kept [] w wq := by rw [hwq]; exact (Kept.refl [] w).drewN nq
    have SQ : Hid (wq.heap.size = w.heap.size) := by rw [hwq]; rfl
    clear hwq
    go_upto_region 9 with (fail)
    have swq := SQ.out
    obtain ⟨w1, hw1⟩ : ∃ w1, w1 = wq.alloc (.cells #[.int .i64 0, .slice none 0 0] 49) := ⟨_, rfl⟩
    rw [← hw1]
    have Xq : Kept [] w w1 := by rw [hw1]; exact Xwq.alloc _
    have rb : Hid (w1.heap[wq.heap.size]? = some (.cells #[.int .i64 0, .slice none 0 0] 49 (0, 0))) := by rw [hw1]; exact heap_alloc_new wq _
    have w1s : w1.heap.size = wq.heap.size + 1 := by rw [hw1]; simp
    clear hw1
    have Kw1 := Lib.hid (HK.out.kept Xq (by simp) (by simp) (by simp) (by simp))
    have hbw1 : ∀ b, b < w.heap.size → w1.heap[b]? = w.heap[b]? := fun b hb => Xq.2 b hb (by simp)
    have gl : g < wq.heap.size := by omega
    have gcl : gc < wq.heap.size := by omega
    have c0 := (World.cell?_of_block (a := ⟨gc, oc, none⟩) (hbw1 gc (by omega))).trans c0
    have c1 := (World.cell?_of_block (a := ⟨gc, oc + 1, none⟩) (hbw1 gc (by omega))).trans c1
    have c2 := (World.cell?_of_block (a := ⟨gc, oc + 2, none⟩) (hbw1 gc (by omega))).trans c2
    have c3 := (World.cell?_of_block (a := ⟨gc, oc + 3, none⟩) (hbw1 gc (by omega))).trans c3
    obtain ⟨q0, q1, q2, q3, q4⟩ := Kw1.out.cells
    rw [hA2] at q1
    have a0 := (World.cell?_of_block (a := ⟨p.g2, o2 + ee, none⟩) (hbw1 p.g2 HR2.out.lt)).trans a0
    have y0 : w1.frozen? ⟨p.g2, o2 + ee, none⟩ = false := (HR2.out.keep (hbw1 p.g2 HR2.out.lt)).frozen _
    clear hbw1 swq
    have SQ1 := Lib.hid w1s
    clear w1s
    go_wp2_with fail
    have swq := SQ.out
    have w1s := SQ1.out
    clear swq w1s
    first | go_region | fail
    have swq := SQ.out
    have w1s := SQ1.out
    obtain ⟨wa, hwa⟩ : ∃ wa, wa = (w1.setCell ⟨p.g2, o2 + ee, none⟩ (.bool false)).drew := ⟨_, rfl⟩
    rw [← hwa]
    have KA : Hid (KB wa g p { K with al := K.al.set ee false }) := by rw [hwa]; exact (Kw1.out.setAlive hA2 he4 false).drew
    have Xwa : Hid (Kept [g, p.g2, p.g3] w wa) := by rw [hwa]; exact ((Xq.mono (by simp)).setCell (p := ⟨p.g2, o2 + ee, none⟩) (by simp) _).drew
    have hbwa : ∀ b, b ≠ g → b ≠ p.g2 → b ≠ p.g3 → wa.heap[b]? = w1.heap[b]? := fun b h1 h2 h3 => by rw [hwa]; exact Below.heap_setCell w1 ⟨p.g2, o2 + ee, none⟩ _ b h2
    have rbwa : Hid (wa.heap[wq.heap.size]? = some (.cells #[.int .i64 0, .slice none 0 0] 49 (0, 0))) := (hbwa _ (by omega) (by omega) (by omega)).trans rb.out
    have rb := rbwa
    have c1 := (World.cell?_of_block (a := ⟨gc, oc + 1, none⟩) (hbwa gc dg d2 d3)).trans c1
    clear hbwa
    obtain ⟨q0, q1, q2, q3, q4⟩ := KA.out.cells
    have SA : Hid (wa.heap.size = wq.heap.size + 1) := by rw [hwa]; exact (show (w1.setCell ⟨p.g2, o2 + ee, none⟩ (.bool false)).heap.size = w1.heap.size by simp).trans w1s
    clear hwa
    obtain ⟨o3, hA3, r3⟩ := KA.out.accs
    rw [hA3] at q2
    have d0 : wa.cell? ⟨p.g3, o3 + ee * 4, none⟩ = some (.int .i64 (gi K.ac (ee * 4))) := r3.cell (show ee * 4 < 16 by omega)
    have d1 : wa.cell? ⟨p.g3, o3 + ee * 4 + 1, none⟩ = some (.int .i64 (gi K.ac (ee * 4 + 1))) := r3.cell (show ee * 4 + 1 < 16 by omega)
    have d4 : wa.cell? ⟨p.g3, o3 + ee * 4 + 2, none⟩ = some (.int .i64 (gi K.ac (ee * 4 + 2))) := r3.cell (show ee * 4 + 2 < 16 by omega)
    have d5 : wa.cell? ⟨p.g3, o3 + ee * 4 + 3, none⟩ = some (.int .i64 (gi K.ac (ee * 4 + 3))) := r3.cell (show ee * 4 + 3 < 16 by omega)
    have y0 := r3.frozen (o3 + ee * 4)
    have y1 := r3.frozen (o3 + ee * 4 + 1)
    have y2 := r3.frozen (o3 + ee * 4 + 2)
    have y3 := r3.frozen (o3 + ee * 4 + 3)
    clear swq w1s r3 a0
    go_wp2_with fail
    first | go_region | fail
    have swq := SQ.out
    have w1s := SA.out
    obtain ⟨wz, hwz⟩ : ∃ wz, wz = ((((wa.setCell ⟨p.g3, o3 + ee * 4, none⟩ (.int .i64 0)).setCell ⟨p.g3, o3 + ee * 4 + 1, none⟩ (.int .i64 0)).setCell ⟨p.g3, o3 + ee * 4 + 2, none⟩ (.int .i64 0)).setCell ⟨p.g3, o3 + ee * 4 + 3, none⟩ (.int .i64 0)).drew := ⟨_, rfl⟩
    rw [← hwz]
    have KZZ : Hid (KB wz g p { K with al := K.al.set ee false, ac := zac K.ac ee }) := by rw [hwz]; exact (KA.out.setAccount hA3 he4 0 0 0 0).drew
    have Xwz : Hid (Kept [g, p.g2, p.g3] w wz) := by rw [hwz]; exact (Xwa.out.set4 (by simp) _ _ _ _).drew
    have hbwz : ∀ b, b ≠ g → b ≠ p.g2 → b ≠ p.g3 → wz.heap[b]? = wa.heap[b]? := fun b h1 h2 h3 => by rw [hwz]; exact (Below.heap_setCell _ ⟨p.g3, _, none⟩ _ b h3).trans ((Below.heap_setCell _ ⟨p.g3, _, none⟩ _ b h3).trans ((Below.heap_setCell _ ⟨p.g3, _, none⟩ _ b h3).trans (Below.heap_setCell _ ⟨p.g3, _, none⟩ _ b h3)))
    have rbwz : Hid (wz.heap[wq.heap.size]? = some (.cells #[.int .i64 0, .slice none 0 0] 49 (0, 0))) := (hbwz _ (by omega) (by omega) (by omega)).trans rb.out
    have rb := rbwz
    have c1 := (World.cell?_of_block (a := ⟨gc, oc + 1, none⟩) (hbwz gc dg d2 d3)).trans c1
    clear hbwz
    obtain ⟨q0, q1, q2, q3, q4⟩ := KZZ.out.cells
    have SZ : Hid (wz.heap.size = wq.heap.size + 1) := by rw [hwz]; exact (show ((((wa.setCell ⟨p.g3, o3 + ee * 4, none⟩ (.int .i64 0)).setCell ⟨p.g3, o3 + ee * 4 + 1, none⟩ (.int .i64 0)).setCell ⟨p.g3, o3 + ee * 4 + 2, none⟩ (.int .i64 0)).setCell ⟨p.g3, o3 + ee * 4 + 3, none⟩ (.int .i64 0)).heap.size = wa.heap.size by simp).trans w1s
    clear hwz d0 d1 d4 d5 y0 y1 y2 y3
    have ZERO : ∀ r1, r1 = drop1 K.os (ee : Int) → r1.1 = 0 := fun r1 e => by
      subst e
      unfold drop1
      rw [if_neg (by rw [ef_of HV.out (by simp; omega)]; simp)]
    have LEN : ∀ r1, r1 = drop1 K.os (ee : Int) → r1.1 = 0 → 1 ≤ r1.2.length := fun r1 e h => by
      subst e
      unfold drop1
      rw [if_neg (by rw [ef_of HV.out (by simp; omega)]; simp)]
      simp
      have := (vf_zero HV.out).1
      omega
    have y4 := frozen_of_row wz g 4 _ _ KZZ.out.box
    by_cases hrun : K.run = (ee : Int)
    · rw [hrun] at q4
      clear swq w1s
      go_wp2_with fail
      go_quiet (fail)
      have KZQ : Hid (KB (wz.drewN nq) g p { K with al := K.al.set ee false, ac := zac K.ac ee }) := KZZ.out.kept ((Kept.refl [] wz).drewN nq) (by simp) (by simp) (by simp) (by simp)
      go_upto_region 18 with (fail)
      have swq := SQ.out
      obtain ⟨wy, hwy⟩ : ∃ wy, wy = (wz.drewN nq).setCell ⟨g, 4, none⟩ (.int .i64 (-1)) := ⟨_, rfl⟩
      rw [← hwy]
      have KY : Hid (KB wy g p { K with al := K.al.set ee false, ac := zac K.ac ee, run := -1 }) := by rw [hwy]; exact KZQ.out.setRun (-1)
      have Xwy : Hid (Kept [g, p.g2, p.g3] w wy) := by rw [hwy]; exact (Xwz.out.drewN nq).setCell (p := ⟨g, 4, none⟩) (by simp) _
      have hbwy : ∀ b, b ≠ g → b ≠ p.g2 → b ≠ p.g3 → wy.heap[b]? = wz.heap[b]? := fun b h1 h2 h3 => by rw [hwy]; exact Below.heap_setCell (wz.drewN nq) ⟨g, 4, none⟩ _ b h1
      have rbwy : Hid (wy.heap[wq.heap.size]? = some (.cells #[.int .i64 0, .slice none 0 0] 49 (0, 0))) := (hbwy _ (by omega) (by omega) (by omega)).trans rb.out
      have rb := rbwy
      have c1 := (World.cell?_of_block (a := ⟨gc, oc + 1, none⟩) (hbwy gc dg d2 d3)).trans c1
      clear hbwy
      obtain ⟨q0, q1, q2, q3, q4⟩ := KY.out.cells
      have SY : Hid (wy.heap.size = wq.heap.size + 1) := by rw [hwy]; exact (show ((wz.drewN nq).setCell ⟨g, 4, none⟩ (.int .i64 (-1))).heap.size = wz.heap.size by simp).trans SZ.out
      clear hwy
      have HRUN := Lib.hid hrun
      clear hrun swq y4
      go_wp2_with fail
      have swq := SQ.out
      have w1s := SY.out
      obtain ⟨r1, hr1⟩ : ∃ r1, r1 = drop1 K.os (ee : Int) := ⟨_, rfl⟩
      have HR1 := Lib.hid hr1
      clear hr1
      have TS : Hid (∀ W, Box2 wq.heap.size 49 wy W → Calls Tryz.prog 130 #[.slice p.A1 p.n1 p.c1, .int .i64 ee] W fun e w' => ∃ A n c, e = .returned (.agg #[.int .i64 r1.1, .slice A n c]) ∧ r1.2.length = n ∧ (A = none → c = 0) ∧ Mine w' (wq.heap.size + 1) w'.heap.size 2 A n (fun k => .int .i64 (gi r1.2 k)) ∧ W.heap.size ≤ w'.heap.size ∧ Box2 wq.heap.size 49 wy w') := fun W h9 => by
        have := specDropSlots_any 0 (wq.heap.size) p.A1 p.n1 p.c1 K.os ee W (by have hl : K.os.length = p.n1 := KY.out.own.l1; omega) KY.out.own.l1 KY.out.own.nil1 ((KY.out.own.m1.sl.wide (Nat.zero_le _) (show p.g1 + 1 ≤ wq.heap.size by omega)).below h9.fst (Nat.le_refl _))
        rw [← HR1.out] at this
        refine this.mono ?_
        rintro e w' ⟨A, n, c, rfl, hl, hn, hm, hb⟩
        exact ⟨A, n, c, rfl, hl, hn, hm.wide (by have := h9.lt; omega) (Nat.le_refl _), hb.size, h9.below hb⟩
      have KS : Hid (∀ W, Box2 wq.heap.size 49 wy W → (W.cell? ⟨g, 0, none⟩ = some (.slice p.A1 p.n1 p.c1) ∧ W.cell? ⟨gc, oc + 1, none⟩ = some (.int .i64 ee) ∧ W.cell? ⟨wq.heap.size, 0, none⟩ = some (cval W ⟨wq.heap.size, 0, none⟩) ∧ W.frozen? ⟨wq.heap.size, 0, none⟩ = false ∧ W.cell? ⟨wq.heap.size, 1, none⟩ = some (cval W ⟨wq.heap.size, 1, none⟩) ∧ W.frozen? ⟨wq.heap.size, 1, none⟩ = false ∧ Box2 wq.heap.size 49 wy W)) := fun W h9 => ⟨(h9.fst.cell (p := ⟨g, 0, none⟩) gl).trans q0, (h9.fst.cell (p := ⟨gc, oc + 1, none⟩) gcl).trans c1, h9.facts.1, h9.facts.2.1, h9.facts.2.2.1, h9.facts.2.2.2, h9⟩
      have PS : Hid (∀ W, (W.cell? ⟨g, 0, none⟩ = some (.slice p.A1 p.n1 p.c1) ∧ W.cell? ⟨gc, oc + 1, none⟩ = some (.int .i64 ee) ∧ W.cell? ⟨wq.heap.size, 0, none⟩ = some (cval W ⟨wq.heap.size, 0, none⟩) ∧ W.frozen? ⟨wq.heap.size, 0, none⟩ = false ∧ W.cell? ⟨wq.heap.size, 1, none⟩ = some (cval W ⟨wq.heap.size, 1, none⟩) ∧ W.frozen? ⟨wq.heap.size, 1, none⟩ = false ∧ Box2 wq.heap.size 49 wy W) → Box2 wq.heap.size 49 wy W) := fun W h9 => h9.2.2.2.2.2.2
      have ST : Hid (∀ W u v, (W.cell? ⟨g, 0, none⟩ = some (.slice p.A1 p.n1 p.c1) ∧ W.cell? ⟨gc, oc + 1, none⟩ = some (.int .i64 ee) ∧ W.cell? ⟨wq.heap.size, 0, none⟩ = some (cval W ⟨wq.heap.size, 0, none⟩) ∧ W.frozen? ⟨wq.heap.size, 0, none⟩ = false ∧ W.cell? ⟨wq.heap.size, 1, none⟩ = some (cval W ⟨wq.heap.size, 1, none⟩) ∧ W.frozen? ⟨wq.heap.size, 1, none⟩ = false ∧ Box2 wq.heap.size 49 wy W) → Box2 wq.heap.size 49 wy ((W.setCell ⟨wq.heap.size, 0, none⟩ u).setCell ⟨wq.heap.size, 1, none⟩ v)) := fun W u v h9 => (PS.out W h9).store u v
      have R0 : Hid (Box2 wq.heap.size 49 wy wy.drew) := ⟨Below.drew (Below.refl _ _), _, _, rb.out⟩
      have SW := Lib.hid swq
      have SW1 := Lib.hid w1s
      clear q0 q1 q2 q3 q4 a0 y0 c0 c1 c2 c3 swq w1s
      go_region_held3 (fun W => W.cell? ⟨g, 0, none⟩ = some (.slice p.A1 p.n1 p.c1) ∧ W.cell? ⟨gc, oc + 1, none⟩ = some (.int .i64 ee) ∧ W.cell? ⟨wq.heap.size, 0, none⟩ = some (cval W ⟨wq.heap.size, 0, none⟩) ∧ W.frozen? ⟨wq.heap.size, 0, none⟩ = false ∧ W.cell? ⟨wq.heap.size, 1, none⟩ = some (cval W ⟨wq.heap.size, 1, none⟩) ∧ W.frozen? ⟨wq.heap.size, 1, none⟩ = false ∧ Box2 wq.heap.size 49 wy W) (first | with_reducible exact KS.out _ (by assumption) | with_reducible exact KS.out _ R0.out | with_reducible exact KS.out _ (ST.out _ _ _ (by assumption))) (first | (go_at_call 130; with_reducible refine (TS.out _ (PS.out _ (by assumption))).mono ?_; rintro e2 w2 ⟨A', n', c', rfl, hl, hnil, hm, hsz, hb9⟩))
      have swq := SW.out
      have w1s := SW1.out
      obtain ⟨w3, hw3⟩ : ∃ w3, w3 = (w2.setCell ⟨wq.heap.size, 0, none⟩ (.int .i64 r1.1)).setCell ⟨wq.heap.size, 1, none⟩ (.slice A' n' c') := ⟨_, rfl⟩
      rw [← hw3]
      have rb3 := hb9.row (.int .i64 r1.1) (.slice A' n' c')
      rw [← hw3] at rb3
      have s3 : w2.heap.size = w3.heap.size := by rw [hw3]; simp
      have hb3 : Below wq.heap.size wy w3 := by rw [hw3]; exact (hb9.store _ _).fst
      have X3 : Kept [wq.heap.size] wy w3 := ⟨hb3.mono (Nat.zero_le _), fun b hb hn => hb3.block b (by simp at hn; omega)⟩
      have K3 := Lib.hid (KY.out.kept X3 (by simp; omega) (by simp; omega) (by simp; omega) (by simp; omega))
      have M3 : Hid (n' ≠ 0 → ∃ g', wq.heap.size < g' ∧ g' < w3.heap.size ∧ Mine w3 g' (g' + 1) 2 A' n' (fun k => .int .i64 (gi r1.2 k))) := fun h0 => by
        obtain ⟨g', z1, z2, z3, z4⟩ := hm.one h0
        have zz := hb9.lt
        exact ⟨g', by have := w1s; omega, by omega, by rw [hw3]; exact ((z4.keep fun b hb1 hb2 => Below.heap_setCell w2 ⟨wq.heap.size, 0, none⟩ _ b (by have := w1s; simp; omega)).keep fun b hb1 hb2 => Below.heap_setCell _ ⟨wq.heap.size, 1, none⟩ _ b (by have := w1s; simp; omega))⟩
      have e0 := cell_of_row w3 _ 0 _ _ _ rb3
      have e1 := cell_of_row w3 _ 1 _ _ _ rb3
      simp at e0 e1
      obtain ⟨q0, q1, q2, q3, q4⟩ := K3.out.cells
      have f0 := frozen_of_row w3 g 0 _ _ K3.out.box
      have XW : Hid (Kept [g, p.g2, p.g3] w w3) := (Xwy.out.mono (by simp)).trans' X3 (fun x hx hl => by simp at hx; omega)
      have HL := Lib.hid hl; have HN := Lib.hid hnil
      clear hw3 rb3 hb3 X3 hm hb9 hl hnil TS KS PS ST R0
      by_cases hq : r1.1 = 0
      · have hqa : (r1.1 != 0) = false := by simp [hq]
        have HC : Hid (call3 K 2 ee s t = (0, { { K with al := K.al.set ee false, ac := zac K.ac ee, run := -1 } with os := r1.2 })) := by show _ = _; rw [show call3 K 2 ee s t = (0, { K with os := (drop1 K.os (ee : Int)).2, al := K.al.set ee false, ac := zac K.ac ee, run := if K.run = (ee : Int) then -1 else K.run }) by unfold call3; rw [if_neg (by omega), hto, if_neg (by simp [ha]), if_pos rfl], ← HR1.out, if_pos HRUN.out]
        have n0 : n' ≠ 0 := by
          have := LEN r1 HR1.out hq
          rw [HL.out] at this
          omega
        obtain ⟨g', z1, z2, z3⟩ := M3.out n0
        have Z3 := Lib.hid z3
        clear z3 M3 swq w1s s3
        go_wp2
        go_ret
        have swq := SW.out
        have w1s := SW1.out
        rw [HC.out]
        first
          | exact ⟨p.withOwners A' n' c' g', rfl, K3.out.setOwners HL.out HN.out Z3.out (by omega) (by omega) (by omega), .inr ⟨by show w.heap.size ≤ g'; omega, by show g' < _; simp; omega⟩, rfl, rfl, XW.out.setCell (p := ⟨g, 0, none⟩) (by simp) _⟩
          | exact ⟨rfl, p.withOwners A' n' c' g', K3.out.setOwners HL.out HN.out Z3.out (by omega) (by omega) (by omega), .inr ⟨by show w.heap.size ≤ g'; omega, by show g' < _; simp; omega⟩, rfl, rfl, XW.out.setCell (p := ⟨g, 0, none⟩) (by simp) _⟩
      · exact absurd (ZERO r1 HR1.out) hq
    · have hra : (K.run == (ee : Int)) = false := by simp [hrun]
      have HRUN := Lib.hid hrun
      clear hrun swq w1s
      go_wp2_with fail
      go_quiet (fail)
      have swq := SQ.out
      obtain ⟨wy, hwy⟩ : ∃ wy, wy = wz.drewN nq := ⟨_, rfl⟩
      rw [← hwy]
      have KY : Hid (KB wy g p { K with al := K.al.set ee false, ac := zac K.ac ee }) := by rw [hwy]; exact KZZ.out.kept ((Kept.refl [] wz).drewN nq) (by simp) (by simp) (by simp) (by simp)
      have Xwy : Hid (Kept [g, p.g2, p.g3] w wy) := by rw [hwy]; exact Xwz.out.drewN nq
      have hbwy : ∀ b, b ≠ g → b ≠ p.g2 → b ≠ p.g3 → wy.heap[b]? = wz.heap[b]? := fun b h1 h2 h3 => by rw [hwy]; exact rfl
      have rbwy : Hid (wy.heap[wq.heap.size]? = some (.cells #[.int .i64 0, .slice none 0 0] 49 (0, 0))) := (hbwy _ (by omega) (by omega) (by omega)).trans rb.out
      have rb := rbwy
      have c1 := (World.cell?_of_block (a := ⟨gc, oc + 1, none⟩) (hbwy gc dg d2 d3)).trans c1
      clear hbwy
      obtain ⟨q0, q1, q2, q3, q4⟩ := KY.out.cells
      have SY : Hid (wy.heap.size = wq.heap.size + 1) := by rw [hwy]; exact SZ.out
      clear hwy hra swq y4
      go_wp2_with fail
      have swq := SQ.out
      have w1s := SY.out
      obtain ⟨r1, hr1⟩ : ∃ r1, r1 = drop1 K.os (ee : Int) := ⟨_, rfl⟩
      have HR1 := Lib.hid hr1
      clear hr1
      have TS : Hid (∀ W, Box2 wq.heap.size 49 wy W → Calls Tryz.prog 130 #[.slice p.A1 p.n1 p.c1, .int .i64 ee] W fun e w' => ∃ A n c, e = .returned (.agg #[.int .i64 r1.1, .slice A n c]) ∧ r1.2.length = n ∧ (A = none → c = 0) ∧ Mine w' (wq.heap.size + 1) w'.heap.size 2 A n (fun k => .int .i64 (gi r1.2 k)) ∧ W.heap.size ≤ w'.heap.size ∧ Box2 wq.heap.size 49 wy w') := fun W h9 => by
        have := specDropSlots_any 0 (wq.heap.size) p.A1 p.n1 p.c1 K.os ee W (by have hl : K.os.length = p.n1 := KY.out.own.l1; omega) KY.out.own.l1 KY.out.own.nil1 ((KY.out.own.m1.sl.wide (Nat.zero_le _) (show p.g1 + 1 ≤ wq.heap.size by omega)).below h9.fst (Nat.le_refl _))
        rw [← HR1.out] at this
        refine this.mono ?_
        rintro e w' ⟨A, n, c, rfl, hl, hn, hm, hb⟩
        exact ⟨A, n, c, rfl, hl, hn, hm.wide (by have := h9.lt; omega) (Nat.le_refl _), hb.size, h9.below hb⟩
      have KS : Hid (∀ W, Box2 wq.heap.size 49 wy W → (W.cell? ⟨g, 0, none⟩ = some (.slice p.A1 p.n1 p.c1) ∧ W.cell? ⟨gc, oc + 1, none⟩ = some (.int .i64 ee) ∧ W.cell? ⟨wq.heap.size, 0, none⟩ = some (cval W ⟨wq.heap.size, 0, none⟩) ∧ W.frozen? ⟨wq.heap.size, 0, none⟩ = false ∧ W.cell? ⟨wq.heap.size, 1, none⟩ = some (cval W ⟨wq.heap.size, 1, none⟩) ∧ W.frozen? ⟨wq.heap.size, 1, none⟩ = false ∧ Box2 wq.heap.size 49 wy W)) := fun W h9 => ⟨(h9.fst.cell (p := ⟨g, 0, none⟩) gl).trans q0, (h9.fst.cell (p := ⟨gc, oc + 1, none⟩) gcl).trans c1, h9.facts.1, h9.facts.2.1, h9.facts.2.2.1, h9.facts.2.2.2, h9⟩
      have PS : Hid (∀ W, (W.cell? ⟨g, 0, none⟩ = some (.slice p.A1 p.n1 p.c1) ∧ W.cell? ⟨gc, oc + 1, none⟩ = some (.int .i64 ee) ∧ W.cell? ⟨wq.heap.size, 0, none⟩ = some (cval W ⟨wq.heap.size, 0, none⟩) ∧ W.frozen? ⟨wq.heap.size, 0, none⟩ = false ∧ W.cell? ⟨wq.heap.size, 1, none⟩ = some (cval W ⟨wq.heap.size, 1, none⟩) ∧ W.frozen? ⟨wq.heap.size, 1, none⟩ = false ∧ Box2 wq.heap.size 49 wy W) → Box2 wq.heap.size 49 wy W) := fun W h9 => h9.2.2.2.2.2.2
      have ST : Hid (∀ W u v, (W.cell? ⟨g, 0, none⟩ = some (.slice p.A1 p.n1 p.c1) ∧ W.cell? ⟨gc, oc + 1, none⟩ = some (.int .i64 ee) ∧ W.cell? ⟨wq.heap.size, 0, none⟩ = some (cval W ⟨wq.heap.size, 0, none⟩) ∧ W.frozen? ⟨wq.heap.size, 0, none⟩ = false ∧ W.cell? ⟨wq.heap.size, 1, none⟩ = some (cval W ⟨wq.heap.size, 1, none⟩) ∧ W.frozen? ⟨wq.heap.size, 1, none⟩ = false ∧ Box2 wq.heap.size 49 wy W) → Box2 wq.heap.size 49 wy ((W.setCell ⟨wq.heap.size, 0, none⟩ u).setCell ⟨wq.heap.size, 1, none⟩ v)) := fun W u v h9 => (PS.out W h9).store u v
      have R0 : Hid (Box2 wq.heap.size 49 wy wy.drew) := ⟨Below.drew (Below.refl _ _), _, _, rb.out⟩
      have SW := Lib.hid swq
      have SW1 := Lib.hid w1s
      clear q0 q1 q2 q3 q4 a0 y0 c0 c1 c2 c3 swq w1s
      go_region_held3 (fun W => W.cell? ⟨g, 0, none⟩ = some (.slice p.A1 p.n1 p.c1) ∧ W.cell? ⟨gc, oc + 1, none⟩ = some (.int .i64 ee) ∧ W.cell? ⟨wq.heap.size, 0, none⟩ = some (cval W ⟨wq.heap.size, 0, none⟩) ∧ W.frozen? ⟨wq.heap.size, 0, none⟩ = false ∧ W.cell? ⟨wq.heap.size, 1, none⟩ = some (cval W ⟨wq.heap.size, 1, none⟩) ∧ W.frozen? ⟨wq.heap.size, 1, none⟩ = false ∧ Box2 wq.heap.size 49 wy W) (first | with_reducible exact KS.out _ (by assumption) | with_reducible exact KS.out _ R0.out | with_reducible exact KS.out _ (ST.out _ _ _ (by assumption))) (first | (go_at_call 130; with_reducible refine (TS.out _ (PS.out _ (by assumption))).mono ?_; rintro e2 w2 ⟨A', n', c', rfl, hl, hnil, hm, hsz, hb9⟩))
      have swq := SW.out
      have w1s := SW1.out
      obtain ⟨w3, hw3⟩ : ∃ w3, w3 = (w2.setCell ⟨wq.heap.size, 0, none⟩ (.int .i64 r1.1)).setCell ⟨wq.heap.size, 1, none⟩ (.slice A' n' c') := ⟨_, rfl⟩
      rw [← hw3]
      have rb3 := hb9.row (.int .i64 r1.1) (.slice A' n' c')
      rw [← hw3] at rb3
      have s3 : w2.heap.size = w3.heap.size := by rw [hw3]; simp
      have hb3 : Below wq.heap.size wy w3 := by rw [hw3]; exact (hb9.store _ _).fst
      have X3 : Kept [wq.heap.size] wy w3 := ⟨hb3.mono (Nat.zero_le _), fun b hb hn => hb3.block b (by simp at hn; omega)⟩
      have K3 := Lib.hid (KY.out.kept X3 (by simp; omega) (by simp; omega) (by simp; omega) (by simp; omega))
      have M3 : Hid (n' ≠ 0 → ∃ g', wq.heap.size < g' ∧ g' < w3.heap.size ∧ Mine w3 g' (g' + 1) 2 A' n' (fun k => .int .i64 (gi r1.2 k))) := fun h0 => by
        obtain ⟨g', z1, z2, z3, z4⟩ := hm.one h0
        have zz := hb9.lt
        exact ⟨g', by have := w1s; omega, by omega, by rw [hw3]; exact ((z4.keep fun b hb1 hb2 => Below.heap_setCell w2 ⟨wq.heap.size, 0, none⟩ _ b (by have := w1s; simp; omega)).keep fun b hb1 hb2 => Below.heap_setCell _ ⟨wq.heap.size, 1, none⟩ _ b (by have := w1s; simp; omega))⟩
      have e0 := cell_of_row w3 _ 0 _ _ _ rb3
      have e1 := cell_of_row w3 _ 1 _ _ _ rb3
      simp at e0 e1
      obtain ⟨q0, q1, q2, q3, q4⟩ := K3.out.cells
      have f0 := frozen_of_row w3 g 0 _ _ K3.out.box
      have XW : Hid (Kept [g, p.g2, p.g3] w w3) := (Xwy.out.mono (by simp)).trans' X3 (fun x hx hl => by simp at hx; omega)
      have HL := Lib.hid hl; have HN := Lib.hid hnil
      clear hw3 rb3 hb3 X3 hm hb9 hl hnil TS KS PS ST R0
      by_cases hq : r1.1 = 0
      · have hqa : (r1.1 != 0) = false := by simp [hq]
        have HC : Hid (call3 K 2 ee s t = (0, { { K with al := K.al.set ee false, ac := zac K.ac ee } with os := r1.2 })) := by show _ = _; rw [show call3 K 2 ee s t = (0, { K with os := (drop1 K.os (ee : Int)).2, al := K.al.set ee false, ac := zac K.ac ee, run := if K.run = (ee : Int) then -1 else K.run }) by unfold call3; rw [if_neg (by omega), hto, if_neg (by simp [ha]), if_pos rfl], ← HR1.out, if_neg HRUN.out]
        have n0 : n' ≠ 0 := by
          have := LEN r1 HR1.out hq
          rw [HL.out] at this
          omega
        obtain ⟨g', z1, z2, z3⟩ := M3.out n0
        have Z3 := Lib.hid z3
        clear z3 M3 swq w1s s3
        go_wp2
        go_ret
        have swq := SW.out
        have w1s := SW1.out
        rw [HC.out]
        first
          | exact ⟨p.withOwners A' n' c' g', rfl, K3.out.setOwners HL.out HN.out Z3.out (by omega) (by omega) (by omega), .inr ⟨by show w.heap.size ≤ g'; omega, by show g' < _; simp; omega⟩, rfl, rfl, XW.out.setCell (p := ⟨g, 0, none⟩) (by simp) _⟩
          | exact ⟨rfl, p.withOwners A' n' c' g', K3.out.setOwners HL.out HN.out Z3.out (by omega) (by omega) (by omega), .inr ⟨by show w.heap.size ≤ g'; omega, by show g' < _; simp; omega⟩, rfl, rfl, XW.out.setCell (p := ⟨g, 0, none⟩) (by simp) _⟩
      · exact absurd (ZERO r1 HR1.out) hq
  · go_enter Tryz.func87, Tryz.ntmps87
    go_wp2_with fail
    go_quiet (fail)
    obtain ⟨wq, hwq⟩ : ∃ wq, wq = w.drewN nq := ⟨_, rfl⟩
    rw [← hwq]
    have Xwq : Kept [] w wq := by rw [hwq]; exact (Kept.refl [] w).drewN nq
    have SQ : Hid (wq.heap.size = w.heap.size) := by rw [hwq]; rfl
    clear hwq
    go_upto_region 9 with (fail)
    have swq := SQ.out
    obtain ⟨w1, hw1⟩ : ∃ w1, w1 = wq.alloc (.cells #[.int .i64 0, .slice none 0 0] 49) := ⟨_, rfl⟩
    rw [← hw1]
    have Xq : Kept [] w w1 := by rw [hw1]; exact Xwq.alloc _
    have rb : Hid (w1.heap[wq.heap.size]? = some (.cells #[.int .i64 0, .slice none 0 0] 49 (0, 0))) := by rw [hw1]; exact heap_alloc_new wq _
    have w1s : w1.heap.size = wq.heap.size + 1 := by rw [hw1]; simp
    clear hw1
    have Kw1 := Lib.hid (HK.out.kept Xq (by simp) (by simp) (by simp) (by simp))
    have hbw1 : ∀ b, b < w.heap.size → w1.heap[b]? = w.heap[b]? := fun b hb => Xq.2 b hb (by simp)
    have gl : g < wq.heap.size := by omega
    have gcl : gc < wq.heap.size := by omega
    have c0 := (World.cell?_of_block (a := ⟨gc, oc, none⟩) (hbw1 gc (by omega))).trans c0
    have c1 := (World.cell?_of_block (a := ⟨gc, oc + 1, none⟩) (hbw1 gc (by omega))).trans c1
    have c2 := (World.cell?_of_block (a := ⟨gc, oc + 2, none⟩) (hbw1 gc (by omega))).trans c2
    have c3 := (World.cell?_of_block (a := ⟨gc, oc + 3, none⟩) (hbw1 gc (by omega))).trans c3
    obtain ⟨q0, q1, q2, q3, q4⟩ := Kw1.out.cells
    rw [hA2] at q1
    have a0 := (World.cell?_of_block (a := ⟨p.g2, o2 + ee, none⟩) (hbw1 p.g2 HR2.out.lt)).trans a0
    have y0 : w1.frozen? ⟨p.g2, o2 + ee, none⟩ = false := (HR2.out.keep (hbw1 p.g2 HR2.out.lt)).frozen _
    clear hbw1 swq
    have SQ1 := Lib.hid w1s
    clear w1s
    go_wp2_with fail
    have swq := SQ.out
    have w1s := SQ1.out
    have LEN : ∀ r1, r1 = take1 K.os (ee : Int) s → r1.1 = 0 → 1 ≤ r1.2.length := fun r1 e h => by subst e; have := take1_same h; omega
    obtain ⟨r1, hr1⟩ : ∃ r1, r1 = take1 K.os (ee : Int) s := ⟨_, rfl⟩
    have HR1 := Lib.hid hr1
    clear hr1
    have TS : Hid (∀ W, Box2 wq.heap.size 49 w1 W → Calls Tryz.prog 131 #[.slice p.A1 p.n1 p.c1, .int .i64 ee, .int .i64 s] W fun e w' => ∃ A n c, e = .returned (.agg #[.int .i64 r1.1, .slice A n c]) ∧ r1.2.length = n ∧ (A = none → c = 0) ∧ Mine w' (wq.heap.size + 1) w'.heap.size 2 A n (fun k => .int .i64 (gi r1.2 k)) ∧ W.heap.size ≤ w'.heap.size ∧ Box2 wq.heap.size 49 w1 w') := fun W h9 => by
      have := specTakeSlot_any 0 (wq.heap.size) p.A1 p.n1 p.c1 K.os ee s W (by have hl : K.os.length = p.n1 := Kw1.out.own.l1; omega) Kw1.out.own.l1 Kw1.out.own.nil1 ((Kw1.out.own.m1.sl.wide (Nat.zero_le _) (show p.g1 + 1 ≤ wq.heap.size by omega)).below h9.fst (Nat.le_refl _))
      rw [← HR1.out] at this
      refine this.mono ?_
      rintro e w' ⟨A, n, c, rfl, hl, hn, hm, hb⟩
      exact ⟨A, n, c, rfl, hl, hn, hm.wide (by have := h9.lt; omega) (Nat.le_refl _), hb.size, h9.below hb⟩
    have KS : Hid (∀ W, Box2 wq.heap.size 49 w1 W → (W.cell? ⟨g, 0, none⟩ = some (.slice p.A1 p.n1 p.c1) ∧ W.cell? ⟨gc, oc + 1, none⟩ = some (.int .i64 ee) ∧ W.cell? ⟨gc, oc + 2, none⟩ = some (.int .i64 s) ∧ W.cell? ⟨wq.heap.size, 0, none⟩ = some (cval W ⟨wq.heap.size, 0, none⟩) ∧ W.frozen? ⟨wq.heap.size, 0, none⟩ = false ∧ W.cell? ⟨wq.heap.size, 1, none⟩ = some (cval W ⟨wq.heap.size, 1, none⟩) ∧ W.frozen? ⟨wq.heap.size, 1, none⟩ = false ∧ Box2 wq.heap.size 49 w1 W)) := fun W h9 => ⟨(h9.fst.cell (p := ⟨g, 0, none⟩) gl).trans q0, (h9.fst.cell (p := ⟨gc, oc + 1, none⟩) gcl).trans c1, (h9.fst.cell (p := ⟨gc, oc + 2, none⟩) gcl).trans c2, h9.facts.1, h9.facts.2.1, h9.facts.2.2.1, h9.facts.2.2.2, h9⟩
    have PS : Hid (∀ W, (W.cell? ⟨g, 0, none⟩ = some (.slice p.A1 p.n1 p.c1) ∧ W.cell? ⟨gc, oc + 1, none⟩ = some (.int .i64 ee) ∧ W.cell? ⟨gc, oc + 2, none⟩ = some (.int .i64 s) ∧ W.cell? ⟨wq.heap.size, 0, none⟩ = some (cval W ⟨wq.heap.size, 0, none⟩) ∧ W.frozen? ⟨wq.heap.size, 0, none⟩ = false ∧ W.cell? ⟨wq.heap.size, 1, none⟩ = some (cval W ⟨wq.heap.size, 1, none⟩) ∧ W.frozen? ⟨wq.heap.size, 1, none⟩ = false ∧ Box2 wq.heap.size 49 w1 W) → Box2 wq.heap.size 49 w1 W) := fun W h9 => h9.2.2.2.2.2.2.2
    have ST : Hid (∀ W u v, (W.cell? ⟨g, 0, none⟩ = some (.slice p.A1 p.n1 p.c1) ∧ W.cell? ⟨gc, oc + 1, none⟩ = some (.int .i64 ee) ∧ W.cell? ⟨gc, oc + 2, none⟩ = some (.int .i64 s) ∧ W.cell? ⟨wq.heap.size, 0, none⟩ = some (cval W ⟨wq.heap.size, 0, none⟩) ∧ W.frozen? ⟨wq.heap.size, 0, none⟩ = false ∧ W.cell? ⟨wq.heap.size, 1, none⟩ = some (cval W ⟨wq.heap.size, 1, none⟩) ∧ W.frozen? ⟨wq.heap.size, 1, none⟩ = false ∧ Box2 wq.heap.size 49 w1 W) → Box2 wq.heap.size 49 w1 ((W.setCell ⟨wq.heap.size, 0, none⟩ u).setCell ⟨wq.heap.size, 1, none⟩ v)) := fun W u v h9 => (PS.out W h9).store u v
    have R0 : Hid (Box2 wq.heap.size 49 w1 w1.drew) := ⟨Below.drew (Below.refl _ _), _, _, rb.out⟩
    have SW := Lib.hid swq
    have SW1 := Lib.hid w1s
    clear q0 q1 q2 q3 q4 a0 y0 c0 c1 c2 c3 swq w1s
    go_region_held3 (fun W => W.cell? ⟨g, 0, none⟩ = some (.slice p.A1 p.n1 p.c1) ∧ W.cell? ⟨gc, oc + 1, none⟩ = some (.int .i64 ee) ∧ W.cell? ⟨gc, oc + 2, none⟩ = some (.int .i64 s) ∧ W.cell? ⟨wq.heap.size, 0, none⟩ = some (cval W ⟨wq.heap.size, 0, none⟩) ∧ W.frozen? ⟨wq.heap.size, 0, none⟩ = false ∧ W.cell? ⟨wq.heap.size, 1, none⟩ = some (cval W ⟨wq.heap.size, 1, none⟩) ∧ W.frozen? ⟨wq.heap.size, 1, none⟩ = false ∧ Box2 wq.heap.size 49 w1 W) (first | with_reducible exact KS.out _ (by assumption) | with_reducible exact KS.out _ R0.out | with_reducible exact KS.out _ (ST.out _ _ _ (by assumption))) (first | (go_at_call 131; with_reducible refine (TS.out _ (PS.out _ (by assumption))).mono ?_; rintro e2 w2 ⟨A', n', c', rfl, hl, hnil, hm, hsz, hb9⟩))
    have swq := SW.out
    have w1s := SW1.out
    obtain ⟨w3, hw3⟩ : ∃ w3, w3 = (w2.setCell ⟨wq.heap.size, 0, none⟩ (.int .i64 r1.1)).setCell ⟨wq.heap.size, 1, none⟩ (.slice A' n' c') := ⟨_, rfl⟩
    rw [← hw3]
    have rb3 := hb9.row (.int .i64 r1.1) (.slice A' n' c')
    rw [← hw3] at rb3
    have s3 : w2.heap.size = w3.heap.size := by rw [hw3]; simp
    have hb3 : Below wq.heap.size w1 w3 := by rw [hw3]; exact (hb9.store _ _).fst
    have X3 : Kept [wq.heap.size] w1 w3 := ⟨hb3.mono (Nat.zero_le _), fun b hb hn => hb3.block b (by simp at hn; omega)⟩
    have K3 := Lib.hid (Kw1.out.kept X3 (by simp; omega) (by simp; omega) (by simp; omega) (by simp; omega))
    have M3 : Hid (n' ≠ 0 → ∃ g', wq.heap.size < g' ∧ g' < w3.heap.size ∧ Mine w3 g' (g' + 1) 2 A' n' (fun k => .int .i64 (gi r1.2 k))) := fun h0 => by
      obtain ⟨g', z1, z2, z3, z4⟩ := hm.one h0
      have zz := hb9.lt
      exact ⟨g', by have := w1s; omega, by omega, by rw [hw3]; exact ((z4.keep fun b hb1 hb2 => Below.heap_setCell w2 ⟨wq.heap.size, 0, none⟩ _ b (by have := w1s; simp; omega)).keep fun b hb1 hb2 => Below.heap_setCell _ ⟨wq.heap.size, 1, none⟩ _ b (by have := w1s; simp; omega))⟩
    have e0 := cell_of_row w3 _ 0 _ _ _ rb3
    have e1 := cell_of_row w3 _ 1 _ _ _ rb3
    simp at e0 e1
    obtain ⟨q0, q1, q2, q3, q4⟩ := K3.out.cells
    have f0 := frozen_of_row w3 g 0 _ _ K3.out.box
    have XW : Hid (Kept [g, p.g2, p.g3] w w3) := (Xq.mono (by simp)).trans' X3 (fun x hx hl => by simp at hx; omega)
    have HL := Lib.hid hl; have HN := Lib.hid hnil
    clear hw3 rb3 hb3 X3 hm hb9 hl hnil TS KS PS ST R0
    by_cases hq : r1.1 = 0
    · have hqa : (r1.1 != 0) = false := by simp [hq]
      have HC : Hid (call3 K 3 ee s t = (0, { K with os := r1.2 })) := by show _ = _; rw [show call3 K 3 ee s t = lists K (take1 K.os (ee : Int) s) by unfold call3; rw [if_neg (by omega), hto, if_neg (by simp [ha])]; simp, ← HR1.out]; unfold lists; rw [if_neg (by simp [hq])]
      have n0 : n' ≠ 0 := by
        have := LEN r1 HR1.out hq
        rw [HL.out] at this
        omega
      obtain ⟨g', z1, z2, z3⟩ := M3.out n0
      have Z3 := Lib.hid z3
      clear z3 M3 swq w1s s3
      go_wp2
      go_ret
      have swq := SW.out
      have w1s := SW1.out
      rw [HC.out]
      first
        | exact ⟨p.withOwners A' n' c' g', rfl, K3.out.setOwners HL.out HN.out Z3.out (by omega) (by omega) (by omega), .inr ⟨by show w.heap.size ≤ g'; omega, by show g' < _; simp; omega⟩, rfl, rfl, XW.out.setCell (p := ⟨g, 0, none⟩) (by simp) _⟩
        | exact ⟨rfl, p.withOwners A' n' c' g', K3.out.setOwners HL.out HN.out Z3.out (by omega) (by omega) (by omega), .inr ⟨by show w.heap.size ≤ g'; omega, by show g' < _; simp; omega⟩, rfl, rfl, XW.out.setCell (p := ⟨g, 0, none⟩) (by simp) _⟩
    · have hqa : (r1.1 != 0) = true := by simp [hq]
      have HC : Hid (call3 K 3 ee s t = (r1.1, K)) := by show _ = _; rw [show call3 K 3 ee s t = lists K (take1 K.os (ee : Int) s) by unfold call3; rw [if_neg (by omega), hto, if_neg (by simp [ha])]; simp, ← HR1.out]; unfold lists; rw [if_pos hq]
      clear hq swq w1s s3 M3
      go_wp2
      go_ret
      rw [HC.out]
      exact ⟨p, rfl, K3.out, .inl rfl, rfl, rfl, XW.out⟩
  · go_enter Tryz.func87, Tryz.ntmps87
    go_wp2_with fail
    go_quiet (fail)
    obtain ⟨wq, hwq⟩ : ∃ wq, wq = w.drewN nq := ⟨_, rfl⟩
    rw [← hwq]
    have Xwq : Kept [] w wq := by rw [hwq]; exact (Kept.refl [] w).drewN nq
    have SQ : Hid (wq.heap.size = w.heap.size) := by rw [hwq]; rfl
    clear hwq
    go_upto_region 9 with (fail)
    have swq := SQ.out
    obtain ⟨w1, hw1⟩ : ∃ w1, w1 = wq.alloc (.cells #[.int .i64 0, .slice none 0 0] 49) := ⟨_, rfl⟩
    rw [← hw1]
    have Xq : Kept [] w w1 := by rw [hw1]; exact Xwq.alloc _
    have rb : Hid (w1.heap[wq.heap.size]? = some (.cells #[.int .i64 0, .slice none 0 0] 49 (0, 0))) := by rw [hw1]; exact heap_alloc_new wq _
    have w1s : w1.heap.size = wq.heap.size + 1 := by rw [hw1]; simp
    clear hw1
    have Kw1 := Lib.hid (HK.out.kept Xq (by simp) (by simp) (by simp) (by simp))
    have hbw1 : ∀ b, b < w.heap.size → w1.heap[b]? = w.heap[b]? := fun b hb => Xq.2 b hb (by simp)
    have gl : g < wq.heap.size := by omega
    have gcl : gc < wq.heap.size := by omega
    have c0 := (World.cell?_of_block (a := ⟨gc, oc, none⟩) (hbw1 gc (by omega))).trans c0
    have c1 := (World.cell?_of_block (a := ⟨gc, oc + 1, none⟩) (hbw1 gc (by omega))).trans c1
    have c2 := (World.cell?_of_block (a := ⟨gc, oc + 2, none⟩) (hbw1 gc (by omega))).trans c2
    have c3 := (World.cell?_of_block (a := ⟨gc, oc + 3, none⟩) (hbw1 gc (by omega))).trans c3
    obtain ⟨q0, q1, q2, q3, q4⟩ := Kw1.out.cells
    rw [hA2] at q1
    have a0 := (World.cell?_of_block (a := ⟨p.g2, o2 + ee, none⟩) (hbw1 p.g2 HR2.out.lt)).trans a0
    have y0 : w1.frozen? ⟨p.g2, o2 + ee, none⟩ = false := (HR2.out.keep (hbw1 p.g2 HR2.out.lt)).frozen _
    clear hbw1 swq
    have SQ1 := Lib.hid w1s
    clear w1s
    go_wp2_with fail
    have swq := SQ.out
    have w1s := SQ1.out
    have LEN : ∀ r1, r1 = free1 K.os (ee : Int) s → r1.1 = 0 → 1 ≤ r1.2.length := fun r1 e h => by subst e; have := free1_same h; omega
    obtain ⟨r1, hr1⟩ : ∃ r1, r1 = free1 K.os (ee : Int) s := ⟨_, rfl⟩
    have HR1 := Lib.hid hr1
    clear hr1
    have TS : Hid (∀ W, Box2 wq.heap.size 49 w1 W → Calls Tryz.prog 132 #[.slice p.A1 p.n1 p.c1, .int .i64 ee, .int .i64 s] W fun e w' => ∃ A n c, e = .returned (.agg #[.int .i64 r1.1, .slice A n c]) ∧ r1.2.length = n ∧ (A = none → c = 0) ∧ Mine w' (wq.heap.size + 1) w'.heap.size 2 A n (fun k => .int .i64 (gi r1.2 k)) ∧ W.heap.size ≤ w'.heap.size ∧ Box2 wq.heap.size 49 w1 w') := fun W h9 => by
      have := specFreeSlot_any 0 (wq.heap.size) p.A1 p.n1 p.c1 K.os ee s W (by have hl : K.os.length = p.n1 := Kw1.out.own.l1; omega) Kw1.out.own.l1 Kw1.out.own.nil1 ((Kw1.out.own.m1.sl.wide (Nat.zero_le _) (show p.g1 + 1 ≤ wq.heap.size by omega)).below h9.fst (Nat.le_refl _))
      rw [← HR1.out] at this
      refine this.mono ?_
      rintro e w' ⟨A, n, c, rfl, hl, hn, hm, hb⟩
      exact ⟨A, n, c, rfl, hl, hn, hm.wide (by have := h9.lt; omega) (Nat.le_refl _), hb.size, h9.below hb⟩
    have KS : Hid (∀ W, Box2 wq.heap.size 49 w1 W → (W.cell? ⟨g, 0, none⟩ = some (.slice p.A1 p.n1 p.c1) ∧ W.cell? ⟨gc, oc + 1, none⟩ = some (.int .i64 ee) ∧ W.cell? ⟨gc, oc + 2, none⟩ = some (.int .i64 s) ∧ W.cell? ⟨wq.heap.size, 0, none⟩ = some (cval W ⟨wq.heap.size, 0, none⟩) ∧ W.frozen? ⟨wq.heap.size, 0, none⟩ = false ∧ W.cell? ⟨wq.heap.size, 1, none⟩ = some (cval W ⟨wq.heap.size, 1, none⟩) ∧ W.frozen? ⟨wq.heap.size, 1, none⟩ = false ∧ Box2 wq.heap.size 49 w1 W)) := fun W h9 => ⟨(h9.fst.cell (p := ⟨g, 0, none⟩) gl).trans q0, (h9.fst.cell (p := ⟨gc, oc + 1, none⟩) gcl).trans c1, (h9.fst.cell (p := ⟨gc, oc + 2, none⟩) gcl).trans c2, h9.facts.1, h9.facts.2.1, h9.facts.2.2.1, h9.facts.2.2.2, h9⟩
    have PS : Hid (∀ W, (W.cell? ⟨g, 0, none⟩ = some (.slice p.A1 p.n1 p.c1) ∧ W.cell? ⟨gc, oc + 1, none⟩ = some (.int .i64 ee) ∧ W.cell? ⟨gc, oc + 2, none⟩ = some (.int .i64 s) ∧ W.cell? ⟨wq.heap.size, 0, none⟩ = some (cval W ⟨wq.heap.size, 0, none⟩) ∧ W.frozen? ⟨wq.heap.size, 0, none⟩ = false ∧ W.cell? ⟨wq.heap.size, 1, none⟩ = some (cval W ⟨wq.heap.size, 1, none⟩) ∧ W.frozen? ⟨wq.heap.size, 1, none⟩ = false ∧ Box2 wq.heap.size 49 w1 W) → Box2 wq.heap.size 49 w1 W) := fun W h9 => h9.2.2.2.2.2.2.2
    have ST : Hid (∀ W u v, (W.cell? ⟨g, 0, none⟩ = some (.slice p.A1 p.n1 p.c1) ∧ W.cell? ⟨gc, oc + 1, none⟩ = some (.int .i64 ee) ∧ W.cell? ⟨gc, oc + 2, none⟩ = some (.int .i64 s) ∧ W.cell? ⟨wq.heap.size, 0, none⟩ = some (cval W ⟨wq.heap.size, 0, none⟩) ∧ W.frozen? ⟨wq.heap.size, 0, none⟩ = false ∧ W.cell? ⟨wq.heap.size, 1, none⟩ = some (cval W ⟨wq.heap.size, 1, none⟩) ∧ W.frozen? ⟨wq.heap.size, 1, none⟩ = false ∧ Box2 wq.heap.size 49 w1 W) → Box2 wq.heap.size 49 w1 ((W.setCell ⟨wq.heap.size, 0, none⟩ u).setCell ⟨wq.heap.size, 1, none⟩ v)) := fun W u v h9 => (PS.out W h9).store u v
    have R0 : Hid (Box2 wq.heap.size 49 w1 w1.drew) := ⟨Below.drew (Below.refl _ _), _, _, rb.out⟩
    have SW := Lib.hid swq
    have SW1 := Lib.hid w1s
    clear q0 q1 q2 q3 q4 a0 y0 c0 c1 c2 c3 swq w1s
    go_region_held3 (fun W => W.cell? ⟨g, 0, none⟩ = some (.slice p.A1 p.n1 p.c1) ∧ W.cell? ⟨gc, oc + 1, none⟩ = some (.int .i64 ee) ∧ W.cell? ⟨gc, oc + 2, none⟩ = some (.int .i64 s) ∧ W.cell? ⟨wq.heap.size, 0, none⟩ = some (cval W ⟨wq.heap.size, 0, none⟩) ∧ W.frozen? ⟨wq.heap.size, 0, none⟩ = false ∧ W.cell? ⟨wq.heap.size, 1, none⟩ = some (cval W ⟨wq.heap.size, 1, none⟩) ∧ W.frozen? ⟨wq.heap.size, 1, none⟩ = false ∧ Box2 wq.heap.size 49 w1 W) (first | with_reducible exact KS.out _ (by assumption) | with_reducible exact KS.out _ R0.out | with_reducible exact KS.out _ (ST.out _ _ _ (by assumption))) (first | (go_at_call 132; with_reducible refine (TS.out _ (PS.out _ (by assumption))).mono ?_; rintro e2 w2 ⟨A', n', c', rfl, hl, hnil, hm, hsz, hb9⟩))
    have swq := SW.out
    have w1s := SW1.out
    obtain ⟨w3, hw3⟩ : ∃ w3, w3 = (w2.setCell ⟨wq.heap.size, 0, none⟩ (.int .i64 r1.1)).setCell ⟨wq.heap.size, 1, none⟩ (.slice A' n' c') := ⟨_, rfl⟩
    rw [← hw3]
    have rb3 := hb9.row (.int .i64 r1.1) (.slice A' n' c')
    rw [← hw3] at rb3
    have s3 : w2.heap.size = w3.heap.size := by rw [hw3]; simp
    have hb3 : Below wq.heap.size w1 w3 := by rw [hw3]; exact (hb9.store _ _).fst
    have X3 : Kept [wq.heap.size] w1 w3 := ⟨hb3.mono (Nat.zero_le _), fun b hb hn => hb3.block b (by simp at hn; omega)⟩
    have K3 := Lib.hid (Kw1.out.kept X3 (by simp; omega) (by simp; omega) (by simp; omega) (by simp; omega))
    have M3 : Hid (n' ≠ 0 → ∃ g', wq.heap.size < g' ∧ g' < w3.heap.size ∧ Mine w3 g' (g' + 1) 2 A' n' (fun k => .int .i64 (gi r1.2 k))) := fun h0 => by
      obtain ⟨g', z1, z2, z3, z4⟩ := hm.one h0
      have zz := hb9.lt
      exact ⟨g', by have := w1s; omega, by omega, by rw [hw3]; exact ((z4.keep fun b hb1 hb2 => Below.heap_setCell w2 ⟨wq.heap.size, 0, none⟩ _ b (by have := w1s; simp; omega)).keep fun b hb1 hb2 => Below.heap_setCell _ ⟨wq.heap.size, 1, none⟩ _ b (by have := w1s; simp; omega))⟩
    have e0 := cell_of_row w3 _ 0 _ _ _ rb3
    have e1 := cell_of_row w3 _ 1 _ _ _ rb3
    simp at e0 e1
    obtain ⟨q0, q1, q2, q3, q4⟩ := K3.out.cells
    have f0 := frozen_of_row w3 g 0 _ _ K3.out.box
    have XW : Hid (Kept [g, p.g2, p.g3] w w3) := (Xq.mono (by simp)).trans' X3 (fun x hx hl => by simp at hx; omega)
    have HL := Lib.hid hl; have HN := Lib.hid hnil
    clear hw3 rb3 hb3 X3 hm hb9 hl hnil TS KS PS ST R0
    by_cases hq : r1.1 = 0
    · have hqa : (r1.1 != 0) = false := by simp [hq]
      have HC : Hid (call3 K 4 ee s t = (0, { K with os := r1.2 })) := by show _ = _; rw [show call3 K 4 ee s t = lists K (free1 K.os (ee : Int) s) by unfold call3; rw [if_neg (by omega), hto, if_neg (by simp [ha])]; simp, ← HR1.out]; unfold lists; rw [if_neg (by simp [hq])]
      have n0 : n' ≠ 0 := by
        have := LEN r1 HR1.out hq
        rw [HL.out] at this
        omega
      obtain ⟨g', z1, z2, z3⟩ := M3.out n0
      have Z3 := Lib.hid z3
      clear z3 M3 swq w1s s3
      go_wp2
      go_ret
      have swq := SW.out
      have w1s := SW1.out
      rw [HC.out]
      first
        | exact ⟨p.withOwners A' n' c' g', rfl, K3.out.setOwners HL.out HN.out Z3.out (by omega) (by omega) (by omega), .inr ⟨by show w.heap.size ≤ g'; omega, by show g' < _; simp; omega⟩, rfl, rfl, XW.out.setCell (p := ⟨g, 0, none⟩) (by simp) _⟩
        | exact ⟨rfl, p.withOwners A' n' c' g', K3.out.setOwners HL.out HN.out Z3.out (by omega) (by omega) (by omega), .inr ⟨by show w.heap.size ≤ g'; omega, by show g' < _; simp; omega⟩, rfl, rfl, XW.out.setCell (p := ⟨g, 0, none⟩) (by simp) _⟩
    · have hqa : (r1.1 != 0) = true := by simp [hq]
      have HC : Hid (call3 K 4 ee s t = (r1.1, K)) := by show _ = _; rw [show call3 K 4 ee s t = lists K (free1 K.os (ee : Int) s) by unfold call3; rw [if_neg (by omega), hto, if_neg (by simp [ha])]; simp, ← HR1.out]; unfold lists; rw [if_pos hq]
      clear hq swq w1s s3 M3
      go_wp2
      go_ret
      rw [HC.out]
      exact ⟨p, rfl, K3.out, .inl rfl, rfl, rfl, XW.out⟩
  · go_enter Tryz.func87, Tryz.ntmps87
    go_wp2_with fail
    go_quiet (fail)
    obtain ⟨wq, hwq⟩ : ∃ wq, wq = w.drewN nq := ⟨_, rfl⟩
    rw [← hwq]
    have Xwq : Kept [] w wq := by rw [hwq]; exact (Kept.refl [] w).drewN nq
    have SQ : Hid (wq.heap.size = w.heap.size) := by rw [hwq]; rfl
    clear hwq
    go_upto_region 9 with (fail)
    have swq := SQ.out
    obtain ⟨w1, hw1⟩ : ∃ w1, w1 = wq.alloc (.cells #[.int .i64 0, .slice none 0 0] 49) := ⟨_, rfl⟩
    rw [← hw1]
    have Xq : Kept [] w w1 := by rw [hw1]; exact Xwq.alloc _
    have rb : Hid (w1.heap[wq.heap.size]? = some (.cells #[.int .i64 0, .slice none 0 0] 49 (0, 0))) := by rw [hw1]; exact heap_alloc_new wq _
    have w1s : w1.heap.size = wq.heap.size + 1 := by rw [hw1]; simp
    clear hw1
    have Kw1 := Lib.hid (HK.out.kept Xq (by simp) (by simp) (by simp) (by simp))
    have hbw1 : ∀ b, b < w.heap.size → w1.heap[b]? = w.heap[b]? := fun b hb => Xq.2 b hb (by simp)
    have gl : g < wq.heap.size := by omega
    have gcl : gc < wq.heap.size := by omega
    have c0 := (World.cell?_of_block (a := ⟨gc, oc, none⟩) (hbw1 gc (by omega))).trans c0
    have c1 := (World.cell?_of_block (a := ⟨gc, oc + 1, none⟩) (hbw1 gc (by omega))).trans c1
    have c2 := (World.cell?_of_block (a := ⟨gc, oc + 2, none⟩) (hbw1 gc (by omega))).trans c2
    have c3 := (World.cell?_of_block (a := ⟨gc, oc + 3, none⟩) (hbw1 gc (by omega))).trans c3
    obtain ⟨q0, q1, q2, q3, q4⟩ := Kw1.out.cells
    rw [hA2] at q1
    have a0 := (World.cell?_of_block (a := ⟨p.g2, o2 + ee, none⟩) (hbw1 p.g2 HR2.out.lt)).trans a0
    have y0 : w1.frozen? ⟨p.g2, o2 + ee, none⟩ = false := (HR2.out.keep (hbw1 p.g2 HR2.out.lt)).frozen _
    clear hbw1 swq
    have SQ1 := Lib.hid w1s
    clear w1s
    go_wp2_with fail
    have swq := SQ.out
    have w1s := SQ1.out
    obtain ⟨tt, rfl⟩ : ∃ t' : Nat, t = (t' : Int) := ⟨t.toNat, by omega⟩
    have ht4 : tt < 4 := by omega
    have ht0 : (0 : Int) ≤ (tt : Int) := by omega
    have htI : (tt : Int) < 4 := by omega
    have htt : ((tt : Int)).toNat = tt := rfl
    have b0 : w1.cell? ⟨p.g2, o2 + tt, none⟩ = some (.bool (gb K.al tt)) := (HR2.out.keep (Xq.2 p.g2 HR2.out.lt (by simp))).cell ht4
    cases hta : gb K.al tt
    · rw [hta] at b0
      have HC : Hid (call3 K 5 ee s tt = (4, K)) := by show _ = _; unfold call3; rw [if_neg (by omega), hto, if_neg (by simp [ha]), if_neg (by omega), if_neg (by omega), if_neg (by omega), htt, if_pos hta]
      clear swq w1s
      go_quiet (fail)
      go_wp2
      go_ret
      rw [HC.out]
      exact ⟨p, rfl, Kw1.out.kept ((Kept.refl [] w1).drewN _) (by simp) (by simp) (by simp) (by simp), .inl rfl, rfl, rfl, (Xq.mono (by simp)).drewN _⟩
    rw [hta] at b0
    clear swq w1s
    go_quiet (fail)
    obtain ⟨wr, hwr⟩ : ∃ wr, wr = w1.drewN nq := ⟨_, rfl⟩
    rw [← hwr]
    have Xr : Kept [] w wr := by rw [hwr]; exact Xq.drewN nq
    have rb : Hid (wr.heap[wq.heap.size]? = some (.cells #[.int .i64 0, .slice none 0 0] 49 (0, 0))) := by rw [hwr]; exact rb.out
    have SQ1 : Hid (wr.heap.size = wq.heap.size + 1) := by rw [hwr]; exact SQ1.out
    have Kwr : Hid (KB wr g p K) := by rw [hwr]; exact Kw1.out.kept ((Kept.refl [] w1).drewN _) (by simp) (by simp) (by simp) (by simp)
    have c0 : wr.cell? ⟨gc, oc, none⟩ = some (.int .i64 5) := by rw [hwr]; exact c0
    have c1 : wr.cell? ⟨gc, oc + 1, none⟩ = some (.int .i64 (ee : Int)) := by rw [hwr]; exact c1
    have c2 : wr.cell? ⟨gc, oc + 2, none⟩ = some (.int .i64 s) := by rw [hwr]; exact c2
    have c3 : wr.cell? ⟨gc, oc + 3, none⟩ = some (.int .i64 (tt : Int)) := by rw [hwr]; exact c3
    clear hwr
    obtain ⟨q0, q1, q2, q3, q4⟩ := Kwr.out.cells
    go_wp2_with fail
    have swq := SQ.out
    have w1s := SQ1.out
    have LEN : ∀ r1, r1 = move1 K.os (ee : Int) s (tt : Int) → r1.1 = 0 → 1 ≤ r1.2.length := fun r1 e h => by subst e; have := move1_same h; omega
    obtain ⟨r1, hr1⟩ : ∃ r1, r1 = move1 K.os (ee : Int) s (tt : Int) := ⟨_, rfl⟩
    have HR1 := Lib.hid hr1
    clear hr1
    have TS : Hid (∀ W, Box2 wq.heap.size 49 wr W → Calls Tryz.prog 133 #[.slice p.A1 p.n1 p.c1, .int .i64 ee, .int .i64 s, .int .i64 tt] W fun e w' => ∃ A n c, e = .returned (.agg #[.int .i64 r1.1, .slice A n c]) ∧ r1.2.length = n ∧ (A = none → c = 0) ∧ Mine w' (wq.heap.size + 1) w'.heap.size 2 A n (fun k => .int .i64 (gi r1.2 k)) ∧ W.heap.size ≤ w'.heap.size ∧ Box2 wq.heap.size 49 wr w') := fun W h9 => by
      have := specMoveSlot_any 0 (wq.heap.size) p.A1 p.n1 p.c1 K.os ee s tt W (by have hl : K.os.length = p.n1 := Kwr.out.own.l1; omega) Kwr.out.own.l1 Kwr.out.own.nil1 ((Kwr.out.own.m1.sl.wide (Nat.zero_le _) (show p.g1 + 1 ≤ wq.heap.size by omega)).below h9.fst (Nat.le_refl _))
      rw [← HR1.out] at this
      refine this.mono ?_
      rintro e w' ⟨A, n, c, rfl, hl, hn, hm, hb⟩
      exact ⟨A, n, c, rfl, hl, hn, hm.wide (by have := h9.lt; omega) (Nat.le_refl _), hb.size, h9.below hb⟩
    have KS : Hid (∀ W, Box2 wq.heap.size 49 wr W → (W.cell? ⟨g, 0, none⟩ = some (.slice p.A1 p.n1 p.c1) ∧ W.cell? ⟨gc, oc + 1, none⟩ = some (.int .i64 ee) ∧ W.cell? ⟨gc, oc + 2, none⟩ = some (.int .i64 s) ∧ W.cell? ⟨gc, oc + 3, none⟩ = some (.int .i64 tt) ∧ W.cell? ⟨wq.heap.size, 0, none⟩ = some (cval W ⟨wq.heap.size, 0, none⟩) ∧ W.frozen? ⟨wq.heap.size, 0, none⟩ = false ∧ W.cell? ⟨wq.heap.size, 1, none⟩ = some (cval W ⟨wq.heap.size, 1, none⟩) ∧ W.frozen? ⟨wq.heap.size, 1, none⟩ = false ∧ Box2 wq.heap.size 49 wr W)) := fun W h9 => ⟨(h9.fst.cell (p := ⟨g, 0, none⟩) gl).trans q0, (h9.fst.cell (p := ⟨gc, oc + 1, none⟩) gcl).trans c1, (h9.fst.cell (p := ⟨gc, oc + 2, none⟩) gcl).trans c2, (h9.fst.cell (p := ⟨gc, oc + 3, none⟩) gcl).trans c3, h9.facts.1, h9.facts.2.1, h9.facts.2.2.1, h9.facts.2.2.2, h9⟩
    have PS : Hid (∀ W, (W.cell? ⟨g, 0, none⟩ = some (.slice p.A1 p.n1 p.c1) ∧ W.cell? ⟨gc, oc + 1, none⟩ = some (.int .i64 ee) ∧ W.cell? ⟨gc, oc + 2, none⟩ = some (.int .i64 s) ∧ W.cell? ⟨gc, oc + 3, none⟩ = some (.int .i64 tt) ∧ W.cell? ⟨wq.heap.size, 0, none⟩ = some (cval W ⟨wq.heap.size, 0, none⟩) ∧ W.frozen? ⟨wq.heap.size, 0, none⟩ = false ∧ W.cell? ⟨wq.heap.size, 1, none⟩ = some (cval W ⟨wq.heap.size, 1, none⟩) ∧ W.frozen? ⟨wq.heap.size, 1, none⟩ = false ∧ Box2 wq.heap.size 49 wr W) → Box2 wq.heap.size 49 wr W) := fun W h9 => h9.2.2.2.2.2.2.2.2
    have ST : Hid (∀ W u v, (W.cell? ⟨g, 0, none⟩ = some (.slice p.A1 p.n1 p.c1) ∧ W.cell? ⟨gc, oc + 1, none⟩ = some (.int .i64 ee) ∧ W.cell? ⟨gc, oc + 2, none⟩ = some (.int .i64 s) ∧ W.cell? ⟨gc, oc + 3, none⟩ = some (.int .i64 tt) ∧ W.cell? ⟨wq.heap.size, 0, none⟩ = some (cval W ⟨wq.heap.size, 0, none⟩) ∧ W.frozen? ⟨wq.heap.size, 0, none⟩ = false ∧ W.cell? ⟨wq.heap.size, 1, none⟩ = some (cval W ⟨wq.heap.size, 1, none⟩) ∧ W.frozen? ⟨wq.heap.size, 1, none⟩ = false ∧ Box2 wq.heap.size 49 wr W) → Box2 wq.heap.size 49 wr ((W.setCell ⟨wq.heap.size, 0, none⟩ u).setCell ⟨wq.heap.size, 1, none⟩ v)) := fun W u v h9 => (PS.out W h9).store u v
    have R0 : Hid (Box2 wq.heap.size 49 wr wr.drew) := ⟨Below.drew (Below.refl _ _), _, _, rb.out⟩
    have SW := Lib.hid swq
    have SW1 := Lib.hid w1s
    clear q0 q1 q2 q3 q4 a0 y0 c0 c1 c2 c3 swq w1s
    go_region_held3 (fun W => W.cell? ⟨g, 0, none⟩ = some (.slice p.A1 p.n1 p.c1) ∧ W.cell? ⟨gc, oc + 1, none⟩ = some (.int .i64 ee) ∧ W.cell? ⟨gc, oc + 2, none⟩ = some (.int .i64 s) ∧ W.cell? ⟨gc, oc + 3, none⟩ = some (.int .i64 tt) ∧ W.cell? ⟨wq.heap.size, 0, none⟩ = some (cval W ⟨wq.heap.size, 0, none⟩) ∧ W.frozen? ⟨wq.heap.size, 0, none⟩ = false ∧ W.cell? ⟨wq.heap.size, 1, none⟩ = some (cval W ⟨wq.heap.size, 1, none⟩) ∧ W.frozen? ⟨wq.heap.size, 1, none⟩ = false ∧ Box2 wq.heap.size 49 wr W) (first | with_reducible exact KS.out _ (by assumption) | with_reducible exact KS.out _ R0.out | with_reducible exact KS.out _ (ST.out _ _ _ (by assumption))) (first | (go_at_call 133; with_reducible refine (TS.out _ (PS.out _ (by assumption))).mono ?_; rintro e2 w2 ⟨A', n', c', rfl, hl, hnil, hm, hsz, hb9⟩))
    have swq := SW.out
    have w1s := SW1.out
    obtain ⟨w3, hw3⟩ : ∃ w3, w3 = (w2.setCell ⟨wq.heap.size, 0, none⟩ (.int .i64 r1.1)).setCell ⟨wq.heap.size, 1, none⟩ (.slice A' n' c') := ⟨_, rfl⟩
    rw [← hw3]
    have rb3 := hb9.row (.int .i64 r1.1) (.slice A' n' c')
    rw [← hw3] at rb3
    have s3 : w2.heap.size = w3.heap.size := by rw [hw3]; simp
    have hb3 : Below wq.heap.size wr w3 := by rw [hw3]; exact (hb9.store _ _).fst
    have X3 : Kept [wq.heap.size] wr w3 := ⟨hb3.mono (Nat.zero_le _), fun b hb hn => hb3.block b (by simp at hn; omega)⟩
    have K3 := Lib.hid (Kwr.out.kept X3 (by simp; omega) (by simp; omega) (by simp; omega) (by simp; omega))
    have M3 : Hid (n' ≠ 0 → ∃ g', wq.heap.size < g' ∧ g' < w3.heap.size ∧ Mine w3 g' (g' + 1) 2 A' n' (fun k => .int .i64 (gi r1.2 k))) := fun h0 => by
      obtain ⟨g', z1, z2, z3, z4⟩ := hm.one h0
      have zz := hb9.lt
      exact ⟨g', by have := w1s; omega, by omega, by rw [hw3]; exact ((z4.keep fun b hb1 hb2 => Below.heap_setCell w2 ⟨wq.heap.size, 0, none⟩ _ b (by have := w1s; simp; omega)).keep fun b hb1 hb2 => Below.heap_setCell _ ⟨wq.heap.size, 1, none⟩ _ b (by have := w1s; simp; omega))⟩
    have e0 := cell_of_row w3 _ 0 _ _ _ rb3
    have e1 := cell_of_row w3 _ 1 _ _ _ rb3
    simp at e0 e1
    obtain ⟨q0, q1, q2, q3, q4⟩ := K3.out.cells
    have f0 := frozen_of_row w3 g 0 _ _ K3.out.box
    have XW : Hid (Kept [g, p.g2, p.g3] w w3) := (Xr.mono (by simp)).trans' X3 (fun x hx hl => by simp at hx; omega)
    have HL := Lib.hid hl; have HN := Lib.hid hnil
    clear hw3 rb3 hb3 X3 hm hb9 hl hnil TS KS PS ST R0
    by_cases hq : r1.1 = 0
    · have hqa : (r1.1 != 0) = false := by simp [hq]
      have HC : Hid (call3 K 5 ee s tt = (0, { K with os := r1.2 })) := by show _ = _; rw [show call3 K 5 ee s tt = lists K (move1 K.os (ee : Int) s (tt : Int)) by unfold call3; rw [if_neg (by omega), hto, if_neg (by simp [ha]), if_neg (by omega), if_neg (by omega), if_neg (by omega), htt, if_neg (by simp [hta])], ← HR1.out]; unfold lists; rw [if_neg (by simp [hq])]
      have n0 : n' ≠ 0 := by
        have := LEN r1 HR1.out hq
        rw [HL.out] at this
        omega
      obtain ⟨g', z1, z2, z3⟩ := M3.out n0
      have Z3 := Lib.hid z3
      clear z3 M3 swq w1s s3
      go_wp2
      go_ret
      have swq := SW.out
      have w1s := SW1.out
      rw [HC.out]
      first
        | exact ⟨p.withOwners A' n' c' g', rfl, K3.out.setOwners HL.out HN.out Z3.out (by omega) (by omega) (by omega), .inr ⟨by show w.heap.size ≤ g'; omega, by show g' < _; simp; omega⟩, rfl, rfl, XW.out.setCell (p := ⟨g, 0, none⟩) (by simp) _⟩
        | exact ⟨rfl, p.withOwners A' n' c' g', K3.out.setOwners HL.out HN.out Z3.out (by omega) (by omega) (by omega), .inr ⟨by show w.heap.size ≤ g'; omega, by show g' < _; simp; omega⟩, rfl, rfl, XW.out.setCell (p := ⟨g, 0, none⟩) (by simp) _⟩
    · have hqa : (r1.1 != 0) = true := by simp [hq]
      have HC : Hid (call3 K 5 ee s tt = (r1.1, K)) := by show _ = _; rw [show call3 K 5 ee s tt = lists K (move1 K.os (ee : Int) s (tt : Int)) by unfold call3; rw [if_neg (by omega), hto, if_neg (by simp [ha]), if_neg (by omega), if_neg (by omega), if_neg (by omega), htt, if_neg (by simp [hta])], ← HR1.out]; unfold lists; rw [if_pos hq]
      clear hq swq w1s s3 M3
      go_wp2
      go_ret
      rw [HC.out]
      exact ⟨p, rfl, K3.out, .inl rfl, rfl, rfl, XW.out⟩

set_option maxHeartbeats 2000000 in
theorem l3EventC_any {w : World} {g : Nat} {p : Kp} {K : Ker} (h : KB w g p K) (sk : SK K) (ht : K.tick < 100000) (ge oe : Nat) (k a b c e s t : Int) (hne : ge ≠ g ∧ ge ≠ p.g2 ∧ ge ≠ p.g3) (hc : w.cell? ⟨ge, oe, none⟩ = some (.int .i64 k) ∧ w.cell? ⟨ge, oe + 1, none⟩ = some (.int .i64 a) ∧ w.cell? ⟨ge, oe + 2, none⟩ = some (.int .i64 b) ∧ w.cell? ⟨ge, oe + 3, none⟩ = some (.int .i64 c) ∧ w.cell? ⟨ge, oe + 4, none⟩ = some (.int .i64 e) ∧ w.cell? ⟨ge, oe + 5, none⟩ = some (.int .i64 s) ∧ w.cell? ⟨ge, oe + 6, none⟩ = some (.int .i64 t)) :
    Calls Tryz.prog 64 #[.pointer (some ⟨g, 0, none⟩), .pointer (some ⟨ge, oe, none⟩)] w (fun r w' => ∃ (p' : Kp) (A : Option Addr) (n cc : Nat), r = .returned (.tuple #[.int .i64 (step3 K k a b c e s t).1, .slice A n cc]) ∧ OR 96 3 w' w.heap.size A n cc (step3 K k a b c e s t).2.2 ∧ KB w' g p' (step3 K k a b c e s t).2.1 ∧ (p'.g1 = p.g1 ∨ w.heap.size ≤ p'.g1 ∧ p'.g1 < w'.heap.size) ∧ p'.g2 = p.g2 ∧ p'.r3 = p.r3 ∧ Kept [g, p.g2, p.g3] w w') := by
  have EF := Lib.hid (specEventFault_any k a b c e s t w)
  have HK := Lib.hid h
  have HS := Lib.hid sk
  have HT := Lib.hid ht
  have NE := Lib.hid hne
  have HC := Lib.hid hc
  obtain ⟨q, hq⟩ : ∃ q, q = evf k a b c e s t := ⟨_, rfl⟩
  rw [← hq] at EF
  have HQ := Lib.hid hq
  have LE := Lib.hid (World.block_lt_of_cell? _ _ hc.1)
  obtain ⟨r3, hr3⟩ : ∃ r3, r3 = step3 K k a b c e s t := ⟨_, rfl⟩
  rw [← hr3]
  have HR := Lib.hid hr3
  obtain ⟨c0, c1, c2, c3, c4, c5, c6⟩ := hc
  clear h sk ht hne hq hr3
  go_enter Tryz.func64, Tryz.ntmps64
  go_wp2_with fail
  refine EF.out.mono ?_
  rintro r w2 ⟨rfl, hb⟩
  have X2 : Hid (∀ gs, Kept gs w w2) := fun gs => Kept.of_below hb gs
  have S2 := Lib.hid hb.size
  have H2 := Lib.hid (HK.out.kept (X2.out []) (by simp) (by simp) (by simp) (by simp))
  have HC2 : Hid (w2.cell? ⟨ge, oe, none⟩ = some (.int .i64 k) ∧ w2.cell? ⟨ge, oe + 1, none⟩ = some (.int .i64 a) ∧ w2.cell? ⟨ge, oe + 2, none⟩ = some (.int .i64 b) ∧ w2.cell? ⟨ge, oe + 3, none⟩ = some (.int .i64 c) ∧ w2.cell? ⟨ge, oe + 4, none⟩ = some (.int .i64 e) ∧ w2.cell? ⟨ge, oe + 5, none⟩ = some (.int .i64 s) ∧ w2.cell? ⟨ge, oe + 6, none⟩ = some (.int .i64 t)) := by
    obtain ⟨c0, c1, c2, c3, c4, c5, c6⟩ := HC.out
    exact ⟨(hb.cell (p := ⟨ge, oe, none⟩) LE.out).trans c0, (hb.cell (p := ⟨ge, oe + 1, none⟩) LE.out).trans c1, (hb.cell (p := ⟨ge, oe + 2, none⟩) LE.out).trans c2, (hb.cell (p := ⟨ge, oe + 3, none⟩) LE.out).trans c3, (hb.cell (p := ⟨ge, oe + 4, none⟩) LE.out).trans c4, (hb.cell (p := ⟨ge, oe + 5, none⟩) LE.out).trans c5, (hb.cell (p := ⟨ge, oe + 6, none⟩) LE.out).trans c6⟩
  clear hb c0 c1 c2 c3 c4 c5 c6 HC EF HK
  by_cases h0 : q = 0
  case neg =>
    have y : (q != 0) = true := by simp [h0]
    have e3 : r3 = (q, K, []) := by rw [HR.out]; unfold step3; rw [if_pos (by rw [← HQ.out]; exact h0), ← HQ.out]
    subst e3
    go_wp2
    go_ret2
    exact ⟨p, none, 0, 0, rfl, OR.void _ _, H2.out, .inl rfl, rfl, rfl, X2.out _⟩
  have HZ := Lib.hid (show evf k a b c e s t = 0 by rw [← HQ.out]; exact h0)
  subst h0
  obtain ⟨c0, c1, c2, c3, c4, c5, c6⟩ := HC2.out
  by_cases k2 : k = 2
  · have hcf : cf c e s t = 0 := by
      rcases evf_z HZ.out with ⟨k1, _⟩ | ⟨_, hh⟩
      · omega
      · exact hh
    have e3 : r3 = ((call3 K c e s t).1, (call3 K c e s t).2, []) := by rw [HR.out]; unfold step3; rw [if_neg (by simp [HZ.out]), if_pos k2]
    subst e3
    have CC := Lib.hid (l3CallC_any g ge (oe + 3) p K c e s t w2 H2.out c3 c4 c5 c6 NE.out.1 NE.out.2.1 NE.out.2.2 HS.out.v hcf)
    subst k2
    clear hcf c3 c4 c5 c6 c1 c2
    go_wp2_with fail
    refine CC.out.mono ?_
    rintro r w3 ⟨p', rfl, hkb, h1, h2, h3, hkk⟩
    have H3 := Lib.hid hkb
    have G3 := Lib.hid (show p'.g1 = p.g1 ∨ w.heap.size ≤ p'.g1 ∧ p'.g1 < w3.heap.size by have := S2.out; omega)
    have E2 := Lib.hid h2; have E3 := Lib.hid h3
    have X3 := Lib.hid ((X2.out [g, p.g2, p.g3]).trans hkk)
    clear hkb h1 h2 h3 hkk c0
    go_wp2
    go_ret2
    exact ⟨p', none, 0, 0, rfl, OR.void _ _, H3.out, G3.out, E2.out, E3.out, X3.out⟩
  · have hto : k = 1 ∧ (0 ≤ b ∧ b < 4) := by
      rcases evf_z HZ.out with ⟨k1, hh, _⟩ | ⟨hh, _⟩
      · exact ⟨k1, hh⟩
      · exact absurd hh k2
    have y : (k == 2) = false := by simp [k2]
    have e3 : r3 = (0, (tick3 K a b).1, (tick3 K a b).2) := by rw [HR.out]; unfold step3; rw [if_neg (by simp [HZ.out]), if_neg k2]
    subst e3
    have CC := Lib.hid (specTick_any H2.out (HS.out.tk HT.out) ge (oe + 1) a b hto.2 ⟨NE.out.1, NE.out.2.2⟩ c1 c2)
    clear k2 hto c1 c2 c3 c4 c5 c6
    go_wp2_with fail
    refine CC.out.mono ?_
    rintro r w3 ⟨A, n, cc, rfl, ho, hkb, hkk⟩
    have O3 := Lib.hid (ho.mono S2.out)
    have H3 := Lib.hid hkb
    have X3 := Lib.hid ((X2.out [g, p.g2, p.g3]).trans (hkk.mono (gs' := [g, p.g2, p.g3]) (by simp)))
    clear ho hkb hkk c0
    go_wp2
    go_ret2
    exact ⟨p, A, n, cc, rfl, O3.out, H3.out, .inl rfl, rfl, rfl, X3.out⟩

end Go.Proofs.YtckapndpefkcgaaGreat
