/-
  The walk of FnTicks.
-/
import Derived.Test.YtckapndpefkcgaaGreatDrawT10
import Derived.Test.YtckapndpefkcgaaGreatDo3t
import Derived.Test.YtckapndpefkcgaaGreatSpec3x
import Derived.Test.YtckapndpefkcgaaGreatImpl3c
import Derived.Test.YtckapndpefkcgaaGreatMath3k
import Derived.Test.YtckapndpefkcgaaGreatDraw2
set_option maxHeartbeats 1000000
namespace Go.Proofs.YtckapndpefkcgaaGreat
open Go.RowKit
set_option maxRecDepth 100000

theorem lwNums_eq10 (lo hi lo' hi' : Nat) (A A' : Option Addr) (xs : List Int) (n c c' : Nat) (w : World) (hn : n * 8 ≤ 140737488351232) (ex : xs.length = n)
    (h : Sl w lo hi A n (fun k => .int .i64 (gi xs k))) (h' : Sl w lo' hi' A' n (fun k => .int .i64 (gi xs k))) :
    Calls Tryz.prog 22 #[.slice A n c, .slice A' n c'] w fun e w' => e = .returned (.bool true) ∧ Below w.heap.size w w' :=
  (lwNums_any lo hi lo' hi' A A' xs xs n n c c' w hn ex ex h h').mono fun e w' hh => ⟨hh.1.trans (by simp), hh.2⟩
theorem begin_os (K : Ker) : (begin3 K).1.os = K.os := by
  unfold begin3
  split
  · rfl
  · split
    · exact put_os _ _ _
    · rfl
theorem act_os (K : Ker) (k to : Int) : (act3 K k to).1.os = K.os := by
  unfold act3
  split
  · rfl
  · split
    · exact put_os _ _ _
    · exact put_os _ _ _
theorem tick_os (K : Ker) (k to : Int) : (tick3 K k to).1.os = K.os := by
  have b : (tickB K).1.os = K.os := by unfold tickB; split; exact begin_os K; rfl
  have a : ∀ M, (tickA M k to).1.os = M.os := fun M => by unfold tickA; split; exact act_os M k to; rfl
  have e : ∀ M, (tickE M).1.os = M.os := fun M => by unfold tickE; split; exact put_os _ _ _; rfl
  show (tickE (tickA (tickB K).1 k to).1).1.os = K.os
  rw [e, a, b]
theorem ROwn.read {w : World} {lo hi : Nat} {p : Rp} {K : Ker} {ns : List Int} (h : ROwn w lo hi p K ns) : KRead w lo hi p.A1 p.n1 p.A2 p.n2 p.A3 p.n3 K :=
  ⟨⟨h.l1, h.l2, h.l3⟩, h.m1.sl.wide h.b1.1 (by have := h.b1.2; omega), h.m2.sl.wide h.b2.1 (by have := h.b2.2; omega), h.m3.sl.wide h.b3.1 (by have := h.b3.2; omega)⟩
theorem dotick_good {K L : Ker} {k to : Int} {ns : List Int} (h : dotick K k to = (0, L, ns)) :
    kf K = 0 ∧ kf L = 0 ∧ L.tick = K.tick + 1 ∧ (0 ≤ K.tick ∧ K.tick < 100000) ∧ L.os = K.os ∧ (1 ≤ K.os.length ∧ K.os.length ≤ 12) ∧ K.ac.length = 16 ∧ L.ac.length = 16 ∧ (0 ≤ to ∧ to < 4) ∧
      (L.run = -1 ∨ L.run = who8 K ∨ (k = 3 ∧ L.run = to)) ∧ ∀ i : Nat, (i : Int) ≠ who8 K → (i : Int) ≠ own3 K → ¬ (k = 3 ∧ (i : Int) = to) → ∀ j, j < 4 → gi L.ac (i * 4 + j) = gi K.ac (i * 4 + j) := by
  unfold dotick at h
  by_cases h0 : kf K = 0
  · rw [if_neg (by simp [h0])] at h
    by_cases h1 : evf 1 k to 0 0 0 0 = 0
    · rw [if_neg (by simp [h1])] at h
      by_cases h2 : 100000 ≤ K.tick
      · rw [if_pos h2] at h
        exact absurd (congrArg Prod.fst h) (by simp)
      · rw [if_neg h2] at h
        have e1 : (tick3 K k to).1 = L := congrArg (fun r => r.2.1) h
        have sk := sk_of h0
        have hto : 0 ≤ to ∧ to < 4 := by
          rcases evf_z h1 with ⟨_, hh, _⟩ | ⟨hh, _⟩
          · exact hh
          · exact absurd hh (by decide)
        obtain ⟨n1, n2, _⟩ := sk.next (by omega) k to hto
        obtain ⟨t1, t2⟩ := tick_turns sk (by omega) (k := k) hto
        have v := vf_zero sk.v
        subst e1
        exact ⟨h0, kf_of n1, n2, ⟨sk.tick.1, by omega⟩, tick_os K k to, ⟨v.1, v.2.1⟩, sk.l3, n1.l3, hto, t1, t2⟩
    · rw [if_pos (by simpa using h1)] at h
      exact absurd (congrArg Prod.fst h) h1
  · rw [if_pos (by simpa using h0)] at h
    exact absurd (congrArg Prod.fst h) h0
theorem dotick_bad {K L : Ker} {k to q : Int} {ns : List Int} (h : dotick K k to = (q, L, ns)) (hq : q ≠ 0) : ns = [] := by
  unfold dotick at h
  split at h
  · exact (congrArg (fun r => r.2.2) h).symm
  · split at h
    · exact (congrArg (fun r => r.2.2) h).symm
    · split at h
      · exact (congrArg (fun r => r.2.2) h).symm
      · exact absurd (congrArg Prod.fst h).symm hq
theorem dotick_small (K : Ker) (k to : Int) : (dotick K k to).2.2.length ≤ 9 := by
  unfold dotick
  split
  · exact Nat.zero_le _
  · rename_i h0
    split
    · exact Nat.zero_le _
    · rename_i h1
      split
      · exact Nat.zero_le _
      · rename_i h2
        have h1' : evf 1 k to 0 0 0 0 = 0 := Classical.byContradiction h1
        have hto : 0 ≤ to ∧ to < 4 := by
          rcases evf_z h1' with ⟨_, hh, _⟩ | ⟨hh, _⟩
          · exact hh
          · exact absurd hh (by decide)
        exact ((sk_of (Classical.byContradiction h0)).next (by omega) k to hto).2.2
theorem ROwn.keep10 {w W : World} {lo : Nat} {p : Rp} {K : Ker} {ns : List Int} (h : ROwn w lo w.heap.size p K ns) (hb : Below w.heap.size w W) : ROwn W lo w.heap.size p K ns :=
  ⟨h.l1, h.l2, h.l3, h.l4, h.nil1, h.m1.below hb (by have := h.b1.2; omega), h.m2.below hb (by have := h.b2.2; omega), h.m3.below hb (by have := h.b3.2; omega), h.m4.below hb (by have := h.b4.2; omega), h.d12, h.d13, h.d14, h.d23, h.d24, h.d34, h.b1, h.b2, h.b3, h.b4⟩
theorem dotick_shape {K L : Ker} {k to q : Int} {ns : List Int} (h : dotick K k to = (q, L, ns)) : L.os.length ≤ 12 ∧ L.al.length ≤ 4 ∧ L.ac.length ≤ 16 := by
  by_cases h0 : q = 0
  · subst h0
    obtain ⟨_, a, _⟩ := dotick_good h
    obtain ⟨x, y, z⟩ := kf_zero a
    have := (vf_zero x).2.1
    omega
  · have e : L = zeroKer := by
      unfold dotick at h
      split at h
      · exact (congrArg (fun r => r.2.1) h).symm
      · split at h
        · exact (congrArg (fun r => r.2.1) h).symm
        · split at h
          · exact (congrArg (fun r => r.2.1) h).symm
          · exact absurd (congrArg Prod.fst h).symm h0
    rw [e]
    exact ⟨Nat.zero_le _, Nat.zero_le _, Nat.zero_le _⟩
theorem implSK_same10 (lo hi lo' hi' : Nat) (p p' : Rp) (K : Ker) (ns ns' : List Int) (w : World) (sm : p.n1 ≤ 12 ∧ p.n2 ≤ 4 ∧ p.n3 ≤ 5) (_ : p'.n1 = p.n1) (h : ROwn w lo hi p K ns) (h' : ROwn w lo' hi' p' K ns') :
    Calls Tryz.prog 26 #[.agg #[.slice p.A1 p.n1 p.c1, .slice p.A2 p.n2 p.c2, .slice p.A3 p.n3 p.c3, .int .i64 K.tick, .int .i64 K.run], .agg #[.slice p'.A1 p'.n1 p'.c1, .slice p'.A2 p'.n2 p'.c2, .slice p'.A3 p'.n3 p'.c3, .int .i64 K.tick, .int .i64 K.run]] w fun e w' => e = .returned (.bool true) ∧ Below w.heap.size w w' :=
  (implSameKernels_any lo hi lo' hi' p.A1 p.n1 p.c1 p.A2 p.n2 p.c2 p.A3 p.n3 p.c3 p'.A1 p'.n1 p'.c1 p'.A2 p'.n2 p'.c2 p'.A3 p'.n3 p'.c3 K K w (by omega) (by omega) (by omega) h.read h'.read).mono fun e w' hh => ⟨hh.1.trans (by simp), hh.2⟩
theorem run_ir10 (q v : Int) (W : World) : (Instr.field 29 (.agg #[.int .i64 q, .int .i64 v]) 1).run Tryz.prog W = .ok (.int .i64 v) W := by kernel_rfl

set_option maxHeartbeats 16000000 in
theorem walkTicks (A : Option Addr) (k c : Nat) (b : Nat → Int) (w : World) (h : Sl w 0 w.heap.size A k (fun j => .int .u8 (b j))) (hb : ∀ j, 0 ≤ b j ∧ b j ≤ 255) (hk : k ≤ 1048576) :
    Calls Tryz.prog 5 #[.slice A k c] w fun e w' => e = .returned (.bool true) ∧ Below w.heap.size w w' := by
  have DR := Lib.hid (DrawDoTick_any 0 w.heap.size A k c b w hk hb h)
  clear h hb
  go_enter Tryz.func5, Tryz.ntmps5
  go_wp2_with fail
  refine (lwBig_any A k c w).mono ?_
  rintro e w' ⟨rfl, rfl⟩
  have hk2 : ¬ ((1048576 : Int) < (k : Int)) := by omega
  go_wp2_with fail
  refine DR.out.mono ?_
  rintro e w1 ⟨A1, n1, c1, A2, n2, c2, A3, n3, c3, K, x0, x1, rfl, hkd, hnil, hnn, hb⟩
  have KD := Lib.hid hkd
  have NIL := Lib.hid hnil
  have NN := Lib.hid hnn
  have R1 := Lib.hid hb
  clear hkd hnil hnn hb DR hk2
  go_upto_region 4 with (fail)
  obtain ⟨wa, hwa⟩ : ∃ V, V = w1.alloc (.cells #[.slice A1 n1 c1, .slice A2 n2 c2, .slice A3 n3 c3, .int .i64 K.tick, .int .i64 K.run] 39) := ⟨_, rfl⟩
  obtain ⟨wb, hwb⟩ : ∃ V, V = wa.alloc (.cells #[.int .i64 x0, .int .i64 x1] 53) := ⟨_, rfl⟩
  obtain ⟨bk, hbk⟩ : ∃ b, b = w1.heap.size := ⟨_, rfl⟩
  obtain ⟨ba, hba⟩ : ∃ b, b = bk + 1 := ⟨_, rfl⟩
  have Na : Below w1.heap.size w1 wa := by rw [hwa]; exact below_new w1 _
  have Nb : Below wa.heap.size wa wb := by rw [hwb]; exact below_new wa _
  have za : wa.heap.size = bk + 1 := by rw [hwa, hbk]; simp
  have zb : wb.heap.size = bk + 2 := by rw [hwb]; simp; omega
  have Ka : wa.heap[bk]? = some (.cells #[.slice A1 n1 c1, .slice A2 n2 c2, .slice A3 n3 c3, .int .i64 K.tick, .int .i64 K.run] 39 (0, 0)) := by rw [hwa, hbk]; exact heap_alloc_new w1 _
  have Kb : Hid (wb.heap[bk]? = some (.cells #[.slice A1 n1 c1, .slice A2 n2 c2, .slice A3 n3 c3, .int .i64 K.tick, .int .i64 K.run] 39 (0, 0))) := (Nb.block bk (by omega)).trans Ka
  have Ab : Hid (wb.heap[ba]? = some (.cells #[.int .i64 x0, .int .i64 x1] 53 (0, 0))) := by show _ = _; rw [hwb, hba, ← za]; exact heap_alloc_new wa _
  have NB : Hid (Below w1.heap.size w1 wb) := Na.trans (Nb.mono (by omega))
  have KDb : Hid (KRead wb w.heap.size w1.heap.size A1 n1 A2 n2 A3 n3 K) := KD.out.below NB.out (Nat.le_refl _)
  rw [← hwa, ← hwb, ← hbk, ← hba]
  have ZZ : Hid (w1.heap.size = bk ∧ ba = bk + 1 ∧ wb.heap.size = bk + 2) := ⟨hbk.symm, hba, zb⟩
  clear hwa hwb hbk hba Na Nb za zb Ka KD
  obtain ⟨q, L, ns, hd⟩ : ∃ q L ns, dotick K x0 x1 = (q, L, ns) := ⟨_, _, _, rfl⟩
  have DK := Lib.hid hd
  have SM : Hid (ns.length ≤ 9) := by have := dotick_small K x0 x1; rw [hd] at this; exact this
  have IP := Lib.hid (implDoTick_any _ _ A1 n1 c1 A2 n2 c2 A3 n3 c3 K x0 x1 wb (by have := NN.out; omega) KDb.out)
  have SP : Hid (∀ (W : World), KRead W w.heap.size w1.heap.size A1 n1 A2 n2 A3 n3 K → Calls Tryz.prog 25 #[.agg #[.slice A1 n1 c1, .slice A2 n2 c2, .slice A3 n3 c3, .int .i64 K.tick, .int .i64 K.run], .agg #[.int .i64 x0, .int .i64 x1]] W (KAns q L ns W)) := fun W hl => by
    have := specDoTick_any _ _ A1 n1 c1 A2 n2 c2 A3 n3 c3 K.tick K.run K x0 x1 W (by have := NN.out; omega) (by have := NN.out; omega) hl NIL.out rfl rfl
    rw [hd] at this; exact this
  rw [hd] at IP
  clear hd
  have q0 := cell_of_row wb _ 0 _ _ _ Kb.out; have q1 := cell_of_row wb _ 1 _ _ _ Kb.out; have q2 := cell_of_row wb _ 2 _ _ _ Kb.out; have q3 := cell_of_row wb _ 3 _ _ _ Kb.out; have q4 := cell_of_row wb _ 4 _ _ _ Kb.out
  have t0 := cell_of_row wb _ 0 _ _ _ Ab.out; have t1 := cell_of_row wb _ 1 _ _ _ Ab.out
  simp at q0 q1 q2 q3 q4 t0 t1
  go_wp2_with fail
  refine IP.out.mono ?_
  rintro e w2 ⟨p1, rfl, ho, hb⟩
  have ho : ROwn w2 wb.heap.size w2.heap.size p1 L ns := ho
  have O1 := Lib.hid ho
  have R2 := Lib.hid hb
  clear ho hb IP q0 q1 q2 q3 q4 t0 t1
  unfold Rp.val
  dsimp only
  obtain ⟨w3, hw3⟩ : ∃ V, V = w2.alloc (.cells #[.int .i64 q, .slice p1.A1 p1.n1 p1.c1, .slice p1.A2 p1.n2 p1.c2, .slice p1.A3 p1.n3 p1.c3, .int .i64 L.tick, .int .i64 L.run, .slice p1.A4 p1.n4 p1.c4] 61) := ⟨_, rfl⟩
  obtain ⟨b1, hb1⟩ : ∃ b, b = w2.heap.size := ⟨_, rfl⟩
  have Kw3 : Hid (w3.heap[b1]? = some (.cells #[.int .i64 q, .slice p1.A1 p1.n1 p1.c1, .slice p1.A2 p1.n2 p1.c2, .slice p1.A3 p1.n3 p1.c3, .int .i64 L.tick, .int .i64 L.run, .slice p1.A4 p1.n4 p1.c4] 61 (0, 0))) := by show _ = _; rw [hw3, hb1]; exact heap_alloc_new w2 _
  have Nw3 : Hid (Below w2.heap.size w2 w3) := by rw [hw3]; exact below_new w2 _
  have Zw3 : Hid (w3.heap.size = b1 + 1 ∧ b1 = w2.heap.size) := by show _ ∧ _; rw [hw3, hb1]; simp
  have HWw3 := Lib.hid hw3; have HBb1 := Lib.hid hb1
  clear hw3 hb1
  have N3 : Hid (Below wb.heap.size wb w3) := R2.out.trans (Nw3.out.mono R2.out.size)
  have K3 := Lib.hid ((N3.out.block bk (by have := ZZ.out; omega)).trans Kb.out)
  have A3' := Lib.hid ((N3.out.block ba (by have := ZZ.out; omega)).trans Ab.out)
  have KD3 : Hid (KRead w3 w.heap.size w1.heap.size A1 n1 A2 n2 A3 n3 K) := KDb.out.below N3.out (by have := ZZ.out; omega)
  have q0 := cell_of_row w3 _ 0 _ _ _ K3.out; have q1 := cell_of_row w3 _ 1 _ _ _ K3.out; have q2 := cell_of_row w3 _ 2 _ _ _ K3.out; have q3 := cell_of_row w3 _ 3 _ _ _ K3.out; have q4 := cell_of_row w3 _ 4 _ _ _ K3.out
  have t0 := cell_of_row w3 _ 0 _ _ _ A3'.out; have t1 := cell_of_row w3 _ 1 _ _ _ A3'.out
  simp at q0 q1 q2 q3 q4 t0 t1
  go_upto_region 5 with (fail)
  rw [← HWw3.out, ← HBb1.out]
  clear HWw3 HBb1
  go_wp2_with fail
  refine (SP.out w3 KD3.out).mono ?_
  rintro e w4 ⟨p2, rfl, ho, hb⟩
  have ho : ROwn w4 w3.heap.size w4.heap.size p2 L ns := ho
  have O2 := Lib.hid ho
  have R4 := Lib.hid hb
  clear ho hb SP q0 q1 q2 q3 q4 t0 t1 K3 A3' KD3
  unfold Rp.val
  dsimp only
  obtain ⟨w5, hw5⟩ : ∃ V, V = w4.alloc (.cells #[.int .i64 q, .slice p2.A1 p2.n1 p2.c1, .slice p2.A2 p2.n2 p2.c2, .slice p2.A3 p2.n3 p2.c3, .int .i64 L.tick, .int .i64 L.run, .slice p2.A4 p2.n4 p2.c4] 61) := ⟨_, rfl⟩
  obtain ⟨b2, hb2⟩ : ∃ b, b = w4.heap.size := ⟨_, rfl⟩
  have Kw5 : Hid (w5.heap[b2]? = some (.cells #[.int .i64 q, .slice p2.A1 p2.n1 p2.c1, .slice p2.A2 p2.n2 p2.c2, .slice p2.A3 p2.n3 p2.c3, .int .i64 L.tick, .int .i64 L.run, .slice p2.A4 p2.n4 p2.c4] 61 (0, 0))) := by show _ = _; rw [hw5, hb2]; exact heap_alloc_new w4 _
  have Nw5 : Hid (Below w4.heap.size w4 w5) := by rw [hw5]; exact below_new w4 _
  have Zw5 : Hid (w5.heap.size = b2 + 1 ∧ b2 = w4.heap.size) := by show _ ∧ _; rw [hw5, hb2]; simp
  have HWw5 := Lib.hid hw5; have HBb2 := Lib.hid hb2
  clear hw5 hb2
  go_upto_region 6 with (fail)
  rw [← HWw5.out, ← HBb2.out]
  clear HWw5 HBb2
  have F : Hid (∀ W, Below w5.heap.size w5 W → (W.cell? ⟨bk, 0, none⟩ = some (.slice A1 n1 c1) ∧ W.cell? ⟨bk, 1, none⟩ = some (.slice A2 n2 c2) ∧ W.cell? ⟨bk, 2, none⟩ = some (.slice A3 n3 c3) ∧ W.cell? ⟨bk, 3, none⟩ = some (.int .i64 K.tick) ∧ W.cell? ⟨bk, 4, none⟩ = some (.int .i64 K.run)) ∧ (W.cell? ⟨ba, 0, none⟩ = some (.int .i64 x0) ∧ W.cell? ⟨ba, 1, none⟩ = some (.int .i64 x1)) ∧ (W.cell? ⟨b1, 0, none⟩ = some (.int .i64 q) ∧ W.cell? ⟨b1, 1, none⟩ = some (.slice p1.A1 p1.n1 p1.c1) ∧ W.cell? ⟨b1, 2, none⟩ = some (.slice p1.A2 p1.n2 p1.c2) ∧ W.cell? ⟨b1, 3, none⟩ = some (.slice p1.A3 p1.n3 p1.c3) ∧ W.cell? ⟨b1, 4, none⟩ = some (.int .i64 L.tick) ∧ W.cell? ⟨b1, 5, none⟩ = some (.int .i64 L.run) ∧ W.cell? ⟨b1, 6, none⟩ = some (.slice p1.A4 p1.n4 p1.c4)) ∧ (W.cell? ⟨b2, 0, none⟩ = some (.int .i64 q) ∧ W.cell? ⟨b2, 1, none⟩ = some (.slice p2.A1 p2.n1 p2.c1) ∧ W.cell? ⟨b2, 2, none⟩ = some (.slice p2.A2 p2.n2 p2.c2) ∧ W.cell? ⟨b2, 3, none⟩ = some (.slice p2.A3 p2.n3 p2.c3) ∧ W.cell? ⟨b2, 4, none⟩ = some (.int .i64 L.tick) ∧ W.cell? ⟨b2, 5, none⟩ = some (.int .i64 L.run) ∧ W.cell? ⟨b2, 6, none⟩ = some (.slice p2.A4 p2.n4 p2.c4)) ∧ KRead W w.heap.size w1.heap.size A1 n1 A2 n2 A3 n3 K ∧ ROwn W wb.heap.size w2.heap.size p1 L ns ∧ ROwn W w3.heap.size w4.heap.size p2 L ns ∧ Below w.heap.size w W) := fun W hW => by
    have z3 := Zw3.out; have z5 := Zw5.out; have zz := ZZ.out
    have s1 := R1.out.size; have s2 := R2.out.size; have s4 := R4.out.size; have sn := N3.out.size
    have e4 : Below w4.heap.size w4 W := Nw5.out.trans (hW.mono (by omega))
    have e3 : Below w3.heap.size w3 W := R4.out.trans (e4.mono s4)
    have e2 : Below w2.heap.size w2 W := Nw3.out.trans (e3.mono (by omega))
    have eb : Below wb.heap.size wb W := N3.out.trans (e3.mono sn)
    have e1 : Below w1.heap.size w1 W := NB.out.trans (eb.mono (by omega))
    have jk := (eb.block bk (by omega)).trans Kb.out
    have ja := (eb.block ba (by omega)).trans Ab.out
    have j1 := (e3.block b1 (by omega)).trans Kw3.out
    have j2 := (hW.block b2 (by omega)).trans Kw5.out
    exact ⟨⟨cell_of_row W _ 0 _ _ _ jk, cell_of_row W _ 1 _ _ _ jk, cell_of_row W _ 2 _ _ _ jk, cell_of_row W _ 3 _ _ _ jk, cell_of_row W _ 4 _ _ _ jk⟩, ⟨cell_of_row W _ 0 _ _ _ ja, cell_of_row W _ 1 _ _ _ ja⟩, ⟨cell_of_row W _ 0 _ _ _ j1, cell_of_row W _ 1 _ _ _ j1, cell_of_row W _ 2 _ _ _ j1, cell_of_row W _ 3 _ _ _ j1, cell_of_row W _ 4 _ _ _ j1, cell_of_row W _ 5 _ _ _ j1, cell_of_row W _ 6 _ _ _ j1⟩, ⟨cell_of_row W _ 0 _ _ _ j2, cell_of_row W _ 1 _ _ _ j2, cell_of_row W _ 2 _ _ _ j2, cell_of_row W _ 3 _ _ _ j2, cell_of_row W _ 4 _ _ _ j2, cell_of_row W _ 5 _ _ _ j2, cell_of_row W _ 6 _ _ _ j2⟩, KDb.out.below eb (by omega), O1.out.keep10 e2, O2.out.keep10 e4, R1.out.trans (e1.mono s1)⟩
  have PB : Hid ((p1.n1 ≤ 12 ∧ p1.n2 ≤ 4 ∧ p1.n3 ≤ 5) ∧ p1.n4 * 3 = ns.length ∧ p2.n4 = p1.n4 ∧ p2.n1 = p1.n1 ∧ p2.n2 = p1.n2 ∧ p2.n3 = p1.n3) := by
    have sb := dotick_shape DK.out
    have g1 := O1.out.l1; have g2 := O1.out.l2; have g3 := O1.out.l3; have g4 := O1.out.l4
    have f1 := O2.out.l1; have f2 := O2.out.l2; have f3 := O2.out.l3; have f4 := O2.out.l4
    show _ ∧ _
    omega
  clear O1 O2 Kw3 Kw5 Nw3 Nw5 R1 R2 R4 Zw3 Zw5 ZZ NB N3 Kb Ab KDb
  have hq : (q != q) = false := by simp
  obtain ⟨⟨k0, k1, k2, k3, k4⟩, ⟨a0, a1⟩, ⟨r0, r1, r2, r3, r4, r5, r6⟩, ⟨s0, s1, s2, s3, s4, s5, s6⟩, kd, o1, o2, bw⟩ := F.out w5 (Below.refl _ _)
  have SK' := Lib.hid (implSK_same10 _ _ _ _ p1 p2 L ns ns w5 (by have := PB.out; omega) (by have := PB.out; omega) o1 o2)
  clear kd o1 o2 bw
  go_wp2_with fail
  refine SK'.out.mono ?_
  rintro e w6 ⟨rfl, hb⟩
  have B6 := Lib.hid hb
  clear hb SK'
  clear k0 k1 k2 k3 k4 a0 a1 r0 r1 r2 r3 r4 r5 r6 s0 s1 s2 s3 s4 s5 s6
  obtain ⟨⟨k0, k1, k2, k3, k4⟩, ⟨a0, a1⟩, ⟨r0, r1, r2, r3, r4, r5, r6⟩, ⟨s0, s1, s2, s3, s4, s5, s6⟩, kd, o1, o2, bw⟩ := F.out w6 B6.out
  have NT := Lib.hid (lwNotes_same _ _ _ _ p1.A4 p2.A4 p1.n4 p1.c4 p2.c4 (gi ns) w6 (by have := PB.out; have := SM.out; omega) o1.m4.sl (by have := o2.m4.sl; rw [PB.out.2.2.1] at this; exact this))
  rw [PB.out.2.2.1] at s6
  clear kd o1 o2 bw
  go_wp2_with fail
  refine NT.out.mono ?_
  rintro e w7 ⟨rfl, hb⟩
  have B7 := Lib.hid (B6.out.trans (hb.mono B6.out.size))
  clear hb NT B6
  clear k0 k1 k2 k3 k4 a0 a1 r0 r1 r2 r3 r4 r5 r6 s0 s1 s2 s3 s4 s5 s6
  obtain ⟨⟨k0, k1, k2, k3, k4⟩, ⟨a0, a1⟩, ⟨r0, r1, r2, r3, r4, r5, r6⟩, ⟨s0, s1, s2, s3, s4, s5, s6⟩, kd, o1, o2, bw⟩ := F.out w7 B7.out
  have BW7 := Lib.hid bw
  clear kd o1 o2 bw
  by_cases h0 : q = 0
  case neg =>
    have y : (q != 0) = true := by simp [h0]
    have n0 : p1.n4 = 0 := by have e := congrArg List.length (dotick_bad DK.out h0); have l := PB.out.2.1; simp only [List.length_nil] at e; omega
    rw [n0] at r6
    clear n0
    go_wp2
    go_ret
    exact ⟨rfl, BW7.out⟩
  subst h0
  have y : ((0 : Int) != 0) = false := by simp
  have GD := Lib.hid (dotick_good DK.out)
  have KF := Lib.hid (implKernelFault_any _ _ p1.A1 p1.n1 p1.c1 p1.A2 p1.n2 p1.c2 p1.A3 p1.n3 p1.c3 L.tick L.run L w7 (by have := PB.out; omega) ((F.out w7 B7.out).2.2.2.2.2.1).read rfl rfl)
  rw [GD.out.2.1] at KF
  go_wp2_with fail
  refine KF.out.mono ?_
  rintro e w8 ⟨rfl, hb⟩
  have B8 := Lib.hid (B7.out.trans (hb.mono B7.out.size))
  clear hb KF B7
  clear k0 k1 k2 k3 k4 a0 a1 r0 r1 r2 r3 r4 r5 r6 s0 s1 s2 s3 s4 s5 s6
  obtain ⟨⟨k0, k1, k2, k3, k4⟩, ⟨a0, a1⟩, ⟨r0, r1, r2, r3, r4, r5, r6⟩, ⟨s0, s1, s2, s3, s4, s5, s6⟩, kd, o1, o2, bw⟩ := F.out w8 B8.out
  have wr1 : IntKind.i64.wrap (K.tick + 1) = K.tick + 1 := IntWalk.i64_in _ (by have := GD.out.2.2.2.1; omega)
  have et : (L.tick != K.tick + 1) = false := by rw [GD.out.2.2.1]; simp
  have en : p1.n1 = n1 := by have g1 := o1.l1; have g2 := kd.1.1; rw [GD.out.2.2.2.2.1] at g1; omega
  have NU := Lib.hid (lwNums_eq10 _ _ _ _ p1.A1 A1 K.os n1 p1.c1 c1 w8 (by have := NN.out; omega) kd.1.1 (by have := o1.m1.sl; rw [GD.out.2.2.2.2.1, en] at this; exact this) kd.2.1)
  rw [en] at r1
  clear kd o1 o2 bw en
  go_wp2_with fail
  refine NU.out.mono ?_
  rintro e w9 ⟨rfl, hb⟩
  have B9 := Lib.hid (B8.out.trans (hb.mono B8.out.size))
  clear hb NU B8 wr1 et
  clear k0 k1 k2 k3 k4 a0 a1 r0 r1 r2 r3 r4 r5 r6 s0 s1 s2 s3 s4 s5 s6
  obtain ⟨⟨k0, k1, k2, k3, k4⟩, ⟨a0, a1⟩, ⟨r0, r1, r2, r3, r4, r5, r6⟩, ⟨s0, s1, s2, s3, s4, s5, s6⟩, kd, o1, o2, bw⟩ := F.out w9 B9.out
  have WA := Lib.hid (specWhoActs_any _ _ A1 n1 c1 A2 n2 c2 A3 n3 c3 K w9 (by have := NN.out; omega) (by have := NN.out; omega) kd)
  obtain ⟨u, hu⟩ : ∃ u, u = who8 K := ⟨_, rfl⟩
  have eu : whoA K = (0, u) := by unfold whoA; rw [if_neg (by simp [GD.out.1]), hu]
  rw [eu] at WA
  have HU := Lib.hid hu
  clear kd o1 o2 bw eu hu
  have RF := fun (a b : Int) (W : World) => run_ir10 a b W
  go_wp2_with fail
  refine WA.out.mono ?_
  rintro e wc ⟨rfl, hb⟩
  have BC := Lib.hid (B9.out.trans (hb.mono B9.out.size))
  clear hb WA B9
  clear k0 k1 k2 k3 k4 a0 a1 r0 r1 r2 r3 r4 r5 r6 s0 s1 s2 s3 s4 s5 s6
  obtain ⟨⟨k0, k1, k2, k3, k4⟩, ⟨a0, a1⟩, ⟨r0, r1, r2, r3, r4, r5, r6⟩, ⟨s0, s1, s2, s3, s4, s5, s6⟩, kd, o1, o2, bw⟩ := F.out wc BC.out
  have n12 : 1 ≤ n1 ∧ n1 ≤ 12 := by have := GD.out.2.2.2.2.2.1; have := kd.1.1; omega
  have tk0 := GD.out.2.2.2.1
  obtain ⟨o, ho⟩ : ∃ o : Nat, o = ((K.tick / 9) % (n1 : Int)).toNat := ⟨_, rfl⟩
  have om : (K.tick / 9) % (n1 : Int) = (o : Int) := by rw [ho]; have := Int.emod_nonneg (K.tick / 9) (show (n1 : Int) ≠ 0 by omega); omega
  have ol : o < n1 := by have := Int.emod_lt_of_pos (K.tick / 9) (show (0 : Int) < (n1 : Int) by omega); omega
  obtain ⟨go_, off, hA1, _, _, hc1⟩ := kd.2.1.at_ ol
  rw [hA1] at k0
  have co : wc.cell? ⟨go_, off + o, none⟩ = some (.int .i64 (gi K.os o)) := hc1 o ol
  have OW : Hid (gi K.os o = own3 K) := by show _ = gi K.os ((K.tick / 9) % (K.os.length : Int)).toNat; rw [kd.1.1, ho]
  generalize gi K.os o = v at *
  have tq : IntKind.i64.wrap (K.tick.tdiv 9) = K.tick / 9 := by rw [Int.tdiv_eq_ediv_of_nonneg tk0.1]; exact IntWalk.i64_in _ (by omega)
  have tq2 : K.tick.tdiv 9 = K.tick / 9 := Int.tdiv_eq_ediv_of_nonneg tk0.1
  have tm : (K.tick / 9).tmod (n1 : Int) = (o : Int) := by rw [Int.tmod_eq_emod_of_nonneg (by omega)]; exact om
  have n0 : ((n1 : Int) == 0) = false := by simp; omega
  have olI : (o : Int) < (n1 : Int) := by omega
  have ol0 : (0 : Int) ≤ (o : Int) := by omega
  clear kd o1 o2 bw hc1 ho om
  go_wp2_with fail
  go_quiet (fail)
  obtain ⟨wd, hwd⟩ : ∃ V, V = wc.drewN nq := ⟨_, rfl⟩
  rw [← hwd]
  have BD : Hid (Below w5.heap.size w5 wd) := by rw [hwd]; exact below_drewN BC.out _
  clear hwd co tq tq2 tm n0 olI ol0 hA1
  clear k0 k1 k2 k3 k4 a0 a1 r0 r1 r2 r3 r4 r5 r6 s0 s1 s2 s3 s4 s5 s6
  have N3 : Hid (n3 = 4 ∧ p1.n3 = 4) := by
    have a := (F.out wd BD.out).2.2.2.2.1.1.2.2
    have b := (F.out wd BD.out).2.2.2.2.2.1.l3
    have c := GD.out
    show _ ∧ _
    omega
  have TT0 : Hid (∀ i : Nat, (i : Int) ≠ u → (i : Int) ≠ v → ¬ (x0 = 3 ∧ (i : Int) = x1) → ∀ j, j < 4 → gi L.ac (i * 4 + j) = gi K.ac (i * 4 + j)) := by
    rw [HU.out, OW.out]; exact GD.out.2.2.2.2.2.2.2.2.2.2
  have RN : Hid (L.run = -1 ∨ L.run = u ∨ (x0 = 3 ∧ L.run = x1)) := by rw [HU.out]; exact GD.out.2.2.2.2.2.2.2.2.2.1
  clear tk0 n12 ol
  go_wp2_with fail
  go_loopw [9] (fun x wr => ∃ i : Nat, i ≤ 4 ∧ x = .int .i64 (i : Int) ∧ Below w5.heap.size w5 wr) (fun x _ => 4 - (intOf x).toNat)
  case atStart => exact ⟨0, by omega, rfl, BD.out⟩
  case round =>
    obtain ⟨i, hi, rfl, hb⟩ := hrel
    have BR := Lib.hid hb
    clear hb
    obtain ⟨⟨k0, k1, k2, k3, k4⟩, ⟨a0, a1⟩, ⟨r0, r1, r2, r3, r4, r5, r6⟩, ⟨s0, s1, s2, s3, s4, s5, s6⟩, kd, o1, o2, bw⟩ := F.out wr BR.out
    have BW := Lib.hid bw
    clear bw
    by_cases hlt : i < 4
    · have hl1 : (i : Int) < 4 := by omega
      have hl0 : (0 : Int) ≤ (i : Int) := by omega
      have k3 := kd.2.2.2
      have m3 := o1.m3.sl
      rw [N3.out.1] at k3 k2
      rw [N3.out.2] at m3 r3
      obtain ⟨ga, oa, hA, _, _, hc⟩ := k3.at_ (show i * 4 < 4 * 4 by omega)
      obtain ⟨gb_, ob, hB, _, _, hc'⟩ := m3.at_ (show i * 4 < 4 * 4 by omega)
      rw [hA] at k2
      rw [hB] at r3
      have TT : (i : Int) ≠ u → (i : Int) ≠ v → ¬ (x0 = 3 ∧ (i : Int) = x1) → (gi L.ac (i * 4 + 0) = gi K.ac (i * 4 + 0) ∧ gi L.ac (i * 4 + 1) = gi K.ac (i * 4 + 1) ∧ gi L.ac (i * 4 + 2) = gi K.ac (i * 4 + 2) ∧ gi L.ac (i * 4 + 3) = gi K.ac (i * 4 + 3)) := fun a b c => ⟨TT0.out i a b c 0 (by omega), TT0.out i a b c 1 (by omega), TT0.out i a b c 2 (by omega), TT0.out i a b c 3 (by omega)⟩
      have g0 : wr.cell? ⟨ga, oa + i * 4, none⟩ = some (.int .i64 (gi K.ac (i * 4 + 0))) := hc (i * 4 + 0) (by omega)
      have g1 : wr.cell? ⟨ga, oa + i * 4 + 1, none⟩ = some (.int .i64 (gi K.ac (i * 4 + 1))) := hc (i * 4 + 1) (by omega)
      have g2 : wr.cell? ⟨ga, oa + i * 4 + 2, none⟩ = some (.int .i64 (gi K.ac (i * 4 + 2))) := hc (i * 4 + 2) (by omega)
      have g3 : wr.cell? ⟨ga, oa + i * 4 + 3, none⟩ = some (.int .i64 (gi K.ac (i * 4 + 3))) := hc (i * 4 + 3) (by omega)
      have l0 : wr.cell? ⟨gb_, ob + i * 4, none⟩ = some (.int .i64 (gi L.ac (i * 4 + 0))) := hc' (i * 4 + 0) (by omega)
      have l1 : wr.cell? ⟨gb_, ob + i * 4 + 1, none⟩ = some (.int .i64 (gi L.ac (i * 4 + 1))) := hc' (i * 4 + 1) (by omega)
      have l2 : wr.cell? ⟨gb_, ob + i * 4 + 2, none⟩ = some (.int .i64 (gi L.ac (i * 4 + 2))) := hc' (i * 4 + 2) (by omega)
      have l3 : wr.cell? ⟨gb_, ob + i * 4 + 3, none⟩ = some (.int .i64 (gi L.ac (i * 4 + 3))) := hc' (i * 4 + 3) (by omega)
      clear hc hc' kd o1 o2 hA hB k3 m3
      generalize gi L.ac (i * 4 + 0) = y0 at *
      generalize gi K.ac (i * 4 + 0) = z0 at *
      generalize gi L.ac (i * 4 + 1) = y1 at *
      generalize gi K.ac (i * 4 + 1) = z1 at *
      generalize gi L.ac (i * 4 + 2) = y2 at *
      generalize gi K.ac (i * 4 + 2) = z2 at *
      generalize gi L.ac (i * 4 + 3) = y3 at *
      generalize gi K.ac (i * 4 + 3) = z3 at *
      rcases Classical.em (y0 = z0 ∧ y1 = z1 ∧ y2 = z2 ∧ y3 = z3) with hne | hne
      · obtain ⟨rfl, rfl, rfl, rfl⟩ := hne
        clear TT
        go_wp2_with fail
        go_quiet (fail)
        go_wp2
        go_roundw
        case rel => exact ⟨i + 1, by omega, by go_num, below_drewN BR.out _⟩
        case measure => simp [intOf]; omega
      by_cases e0 : y0 = z0
      case neg =>
        have d0 : (y0 == z0) = false := by simp [e0]
        rcases Classical.em ((i : Int) = u) with hu1 | hu1
        · have f1 : ((i : Int) != u) = false := by simp [hu1]
          clear hu1 TT
          go_wp2_with fail
          go_quiet (fail)
          go_wp2
          go_roundw
          case rel => exact ⟨i + 1, by omega, by go_num, below_drewN BR.out _⟩
          case measure => simp [intOf]; omega
        have f1 : ((i : Int) != u) = true := by simp [hu1]
        rcases Classical.em ((i : Int) = v) with hv1 | hv1
        · have f2 : ((i : Int) != v) = false := by simp [hv1]
          clear hv1 TT
          go_wp2_with fail
          go_quiet (fail)
          go_wp2
          go_roundw
          case rel => exact ⟨i + 1, by omega, by go_num, below_drewN BR.out _⟩
          case measure => simp [intOf]; omega
        have f2 : ((i : Int) != v) = true := by simp [hv1]
        have hx := Classical.byContradiction (fun hh => hne (TT hu1 hv1 hh))
        have f3 : (x0 == 3) = true := by simp [hx.1]
        have f4 : ((i : Int) == x1) = true := by simp [hx.2]
        clear hx TT
        go_wp2_with fail
        go_quiet (fail)
        go_wp2
        go_roundw
        case rel => exact ⟨i + 1, by omega, by go_num, below_drewN BR.out _⟩
        case measure => simp [intOf]; omega
      by_cases e1 : y1 = z1
      case neg =>
        have d1 : (y1 == z1) = false := by simp [e1]
        rcases Classical.em ((i : Int) = u) with hu1 | hu1
        · have f1 : ((i : Int) != u) = false := by simp [hu1]
          clear hu1 TT
          go_wp2_with fail
          go_quiet (fail)
          go_wp2
          go_roundw
          case rel => exact ⟨i + 1, by omega, by go_num, below_drewN BR.out _⟩
          case measure => simp [intOf]; omega
        have f1 : ((i : Int) != u) = true := by simp [hu1]
        rcases Classical.em ((i : Int) = v) with hv1 | hv1
        · have f2 : ((i : Int) != v) = false := by simp [hv1]
          clear hv1 TT
          go_wp2_with fail
          go_quiet (fail)
          go_wp2
          go_roundw
          case rel => exact ⟨i + 1, by omega, by go_num, below_drewN BR.out _⟩
          case measure => simp [intOf]; omega
        have f2 : ((i : Int) != v) = true := by simp [hv1]
        have hx := Classical.byContradiction (fun hh => hne (TT hu1 hv1 hh))
        have f3 : (x0 == 3) = true := by simp [hx.1]
        have f4 : ((i : Int) == x1) = true := by simp [hx.2]
        clear hx TT
        go_wp2_with fail
        go_quiet (fail)
        go_wp2
        go_roundw
        case rel => exact ⟨i + 1, by omega, by go_num, below_drewN BR.out _⟩
        case measure => simp [intOf]; omega
      by_cases e2 : y2 = z2
      case neg =>
        have d2 : (y2 == z2) = false := by simp [e2]
        rcases Classical.em ((i : Int) = u) with hu1 | hu1
        · have f1 : ((i : Int) != u) = false := by simp [hu1]
          clear hu1 TT
          go_wp2_with fail
          go_quiet (fail)
          go_wp2
          go_roundw
          case rel => exact ⟨i + 1, by omega, by go_num, below_drewN BR.out _⟩
          case measure => simp [intOf]; omega
        have f1 : ((i : Int) != u) = true := by simp [hu1]
        rcases Classical.em ((i : Int) = v) with hv1 | hv1
        · have f2 : ((i : Int) != v) = false := by simp [hv1]
          clear hv1 TT
          go_wp2_with fail
          go_quiet (fail)
          go_wp2
          go_roundw
          case rel => exact ⟨i + 1, by omega, by go_num, below_drewN BR.out _⟩
          case measure => simp [intOf]; omega
        have f2 : ((i : Int) != v) = true := by simp [hv1]
        have hx := Classical.byContradiction (fun hh => hne (TT hu1 hv1 hh))
        have f3 : (x0 == 3) = true := by simp [hx.1]
        have f4 : ((i : Int) == x1) = true := by simp [hx.2]
        clear hx TT
        go_wp2_with fail
        go_quiet (fail)
        go_wp2
        go_roundw
        case rel => exact ⟨i + 1, by omega, by go_num, below_drewN BR.out _⟩
        case measure => simp [intOf]; omega
      by_cases e3 : y3 = z3
      case neg =>
        have d3 : (y3 == z3) = false := by simp [e3]
        rcases Classical.em ((i : Int) = u) with hu1 | hu1
        · have f1 : ((i : Int) != u) = false := by simp [hu1]
          clear hu1 TT
          go_wp2_with fail
          go_quiet (fail)
          go_wp2
          go_roundw
          case rel => exact ⟨i + 1, by omega, by go_num, below_drewN BR.out _⟩
          case measure => simp [intOf]; omega
        have f1 : ((i : Int) != u) = true := by simp [hu1]
        rcases Classical.em ((i : Int) = v) with hv1 | hv1
        · have f2 : ((i : Int) != v) = false := by simp [hv1]
          clear hv1 TT
          go_wp2_with fail
          go_quiet (fail)
          go_wp2
          go_roundw
          case rel => exact ⟨i + 1, by omega, by go_num, below_drewN BR.out _⟩
          case measure => simp [intOf]; omega
        have f2 : ((i : Int) != v) = true := by simp [hv1]
        have hx := Classical.byContradiction (fun hh => hne (TT hu1 hv1 hh))
        have f3 : (x0 == 3) = true := by simp [hx.1]
        have f4 : ((i : Int) == x1) = true := by simp [hx.2]
        clear hx TT
        go_wp2_with fail
        go_quiet (fail)
        go_wp2
        go_roundw
        case rel => exact ⟨i + 1, by omega, by go_num, below_drewN BR.out _⟩
        case measure => simp [intOf]; omega
      exact absurd ⟨e0, e1, e2, e3⟩ hne
    · have hjn : ¬ ((i : Int) < 4) := by omega
      clear kd o1 o2
      obtain ⟨rr, hrr⟩ : ∃ rr, rr = L.run := ⟨_, rfl⟩
      rw [← hrr] at r5 RN
      clear hrr
      rcases Classical.em (rr = -1) with h1 | h1
      · have f1 : (rr == -1) = true := by simp [h1]
        go_wp2
        go_ret
        exact ⟨rfl, BW.out⟩
      have f1 : (rr == -1) = false := by simp [h1]
      rcases Classical.em (rr = u) with h2 | h2
      · have f2 : (rr == u) = true := by simp [h2]
        go_wp2
        go_ret
        exact ⟨rfl, BW.out⟩
      have f2 : (rr == u) = false := by simp [h2]
      have hx : x0 = 3 ∧ rr = x1 := by
        rcases RN.out with a | a | a
        · exact absurd a h1
        · exact absurd a h2
        · exact a
      have f3 : (x0 == 3) = true := by simp [hx.1]
      have f4 : (rr == x1) = true := by simp [hx.2]
      clear hx
      go_wp2
      go_ret
      exact ⟨rfl, BW.out⟩

end Go.Proofs.YtckapndpefkcgaaGreat
