/-
  The walk of FnCalls.
-/
import Derived.Test.YtckapndpefkcgaaGreatDrawS10
import Derived.Test.YtckapndpefkcgaaGreatTicksW
import Derived.Test.YtckapndpefkcgaaGreatDo3
import Derived.Test.YtckapndpefkcgaaGreatNew3
import Derived.Test.YtckapndpefkcgaaGreatSpec3s
import Derived.Test.YtckapndpefkcgaaGreatMath9d
import Derived.Test.YtckapndpefkcgaaGreatU8s
set_option maxHeartbeats 1000000
namespace Go.Proofs.YtckapndpefkcgaaGreat
open List renaming getElem_toArray → zz1, getElem_cons_succ → zz2, getElem_cons_zero → zz3, setIfInBounds_toArray → zz4, set_cons_zero → zz5, set_cons_succ → zz6
open Go.RowKit
set_option maxRecDepth 100000

theorem docall_good {K L : Ker} {k e s t : Int} (h : docall K k e s t = (0, L)) : kf K = 0 ∧ kf L = 0 ∧ L.tick = K.tick ∧ K.ac.length = 16 ∧ L.ac.length = 16 ∧ ∀ i : Nat, (i : Int) ≠ e → ∀ j, j < 4 → gi L.ac (i * 4 + j) = gi K.ac (i * 4 + j) := by
  unfold docall at h
  by_cases h0 : kf K = 0
  · rw [if_neg (by simp [h0])] at h
    by_cases h1 : cf k e s t = 0
    · rw [if_neg (by simp [h1])] at h
      have sk := sk_of h0
      obtain ⟨_, he, _, _⟩ := cf_z h1
      have e1 : (call3 K k e s t).2 = L := by
        unfold orZero at h
        by_cases h2 : (call3 K k e s t).1 = 0
        · rw [if_neg (by simp [h2])] at h
          exact congrArg Prod.snd h
        · rw [if_pos h2] at h
          exact absurd (congrArg Prod.fst h) h2
      subst e1
      have n := sk.call h1
      exact ⟨h0, kf_of n, call_tick K k e s t, sk.l3, n.l3, fun i hi j hj => call_turns sk.l3 he hi j hj⟩
    · rw [if_pos h1] at h
      exact absurd (congrArg Prod.fst h) h1
  · rw [if_pos h0] at h
    exact absurd (congrArg Prod.fst h) h0
theorem docall_bad {K L : Ker} {k e s t q : Int} (h : docall K k e s t = (q, L)) (hq : q ≠ 0) : L = zeroKer := by
  unfold docall at h
  split at h
  · exact (congrArg Prod.snd h).symm
  · split at h
    · exact (congrArg Prod.snd h).symm
    · unfold orZero at h
      split at h
      · exact (congrArg Prod.snd h).symm
      · rename_i h2
        exact absurd ((congrArg Prod.fst h).symm.trans (Classical.byContradiction h2)) hq
theorem docall_shape {K L : Ker} {k e s t q : Int} (h : docall K k e s t = (q, L)) : L.os.length ≤ 12 ∧ L.al.length ≤ 4 ∧ L.ac.length ≤ 16 := by
  by_cases h0 : q = 0
  · subst h0
    obtain ⟨_, a, _⟩ := docall_good h
    obtain ⟨x, y, z⟩ := kf_zero a
    have := (vf_zero x).2.1
    omega
  · rw [docall_bad h h0]
    exact ⟨Nat.zero_le _, Nat.zero_le _, Nat.zero_le _⟩
theorem nk_good {m q : Int} {X : Ker} (h : nk m = (q, X)) : (X.os.length ≤ 12 ∧ X.al.length ≤ 4 ∧ X.ac.length ≤ 16) ∧ (q = 0 → kf X = 0 ∧ (X.os.length : Int) = m) := by
  rcases new1_code m with ⟨_, _, h3⟩ | ⟨_, h2⟩
  · rw [nk_zero h3] at h
    obtain ⟨sk, hl, _⟩ := sk_new h3
    have e : new3 m = X := congrArg Prod.snd h
    subst e
    have v := (vf_zero sk.v).2.1
    exact ⟨⟨v, by have := sk.l2; omega, by have := sk.l3; omega⟩, fun _ => ⟨kf_of sk, hl⟩⟩
  · rw [h2] at h
    have e : zeroKer = X := congrArg Prod.snd h
    subst e
    exact ⟨⟨Nat.zero_le _, Nat.zero_le _, Nat.zero_le _⟩, fun hq => by
      have e2 : (2 : Int) = q := congrArg Prod.fst h
      omega⟩
theorem run_kr10 (q t u : Int) (A B C D : Option Addr) (k c m d i j n r : Nat) (W : World) : (Instr.field 61 (.agg #[.int .i64 q, .slice A k c, .slice B m d, .slice C i j, .int .i64 t, .int .i64 u, .slice D n r]) 0).run Tryz.prog W = .ok (.int .i64 q) W := by kernel_rfl

set_option maxHeartbeats 32000000 in
theorem walkCalls (A : Option Addr) (k c : Nat) (b : Nat → Int) (w : World) (h : Sl w 0 w.heap.size A k (fun j => .int .u8 (b j))) (hb : ∀ j, 0 ≤ b j ∧ b j ≤ 255) (hk : k ≤ 1048576) :
    Calls Tryz.prog 6 #[.slice A k c] w fun e w' => e = .returned (.bool true) ∧ Below w.heap.size w w' := by
  have DR := Lib.hid (DrawDoCall_any 0 w.heap.size A k c b w hk hb h)
  have HBY := Lib.hid hb
  have CD : Hid (∀ W, Below w.heap.size w W → Sl W 0 w.heap.size A k (fun j => .int .u8 (b j))) := fun W hW => h.below hW (Nat.le_refl _)
  clear h hb
  go_enter Tryz.func6, Tryz.ntmps6
  go_wp2_with fail
  refine (lwBig_any A k c w).mono ?_
  rintro e w' ⟨rfl, rfl⟩
  have hk2 : ¬ ((1048576 : Int) < (k : Int)) := by omega
  go_wp2_with fail
  refine DR.out.mono ?_
  rintro e w1 ⟨A1, n1, c1, A2, n2, c2, A3, n3, c3, K, x0, x1, x2, x3, rfl, hkd, hnil, hnn, hb⟩
  have KD := Lib.hid hkd
  have NIL := Lib.hid hnil
  have NN := Lib.hid hnn
  have R1 := Lib.hid hb
  clear hkd hnil hnn hb DR hk2
  go_upto_region 4 with (fail)
  obtain ⟨wa, hwa⟩ : ∃ V, V = w1.alloc (.cells #[.slice A1 n1 c1, .slice A2 n2 c2, .slice A3 n3 c3, .int .i64 K.tick, .int .i64 K.run] 39) := ⟨_, rfl⟩
  obtain ⟨wb, hwb⟩ : ∃ V, V = wa.alloc (.cells #[.int .i64 x0, .int .i64 x1, .int .i64 x2, .int .i64 x3] 55) := ⟨_, rfl⟩
  obtain ⟨bk, hbk⟩ : ∃ b, b = w1.heap.size := ⟨_, rfl⟩
  obtain ⟨bc, hbc⟩ : ∃ b, b = bk + 1 := ⟨_, rfl⟩
  have Na : Below w1.heap.size w1 wa := by rw [hwa]; exact below_new w1 _
  have Nb : Below wa.heap.size wa wb := by rw [hwb]; exact below_new wa _
  have za : wa.heap.size = bk + 1 := by rw [hwa, hbk]; simp
  have zb : wb.heap.size = bk + 2 := by rw [hwb]; simp; omega
  have Ka : wa.heap[bk]? = some (.cells #[.slice A1 n1 c1, .slice A2 n2 c2, .slice A3 n3 c3, .int .i64 K.tick, .int .i64 K.run] 39 (0, 0)) := by rw [hwa, hbk]; exact heap_alloc_new w1 _
  have Kb : Hid (wb.heap[bk]? = some (.cells #[.slice A1 n1 c1, .slice A2 n2 c2, .slice A3 n3 c3, .int .i64 K.tick, .int .i64 K.run] 39 (0, 0))) := (Nb.block bk (by omega)).trans Ka
  have Ab : Hid (wb.heap[bc]? = some (.cells #[.int .i64 x0, .int .i64 x1, .int .i64 x2, .int .i64 x3] 55 (0, 0))) := by show _ = _; rw [hwb, hbc, ← za]; exact heap_alloc_new wa _
  have NB : Hid (Below w1.heap.size w1 wb) := Na.trans (Nb.mono (by omega))
  have KDb : Hid (KRead wb w.heap.size w1.heap.size A1 n1 A2 n2 A3 n3 K) := KD.out.below NB.out (Nat.le_refl _)
  rw [← hwa, ← hwb, ← hbk, ← hbc]
  have ZZ : Hid (w1.heap.size = bk ∧ bc = bk + 1 ∧ wb.heap.size = bk + 2) := ⟨hbk.symm, hbc, zb⟩
  clear hwa hwb hbk hbc Na Nb za zb Ka KD
  obtain ⟨q, L, hd⟩ : ∃ q L, docall K x0 x1 x2 x3 = (q, L) := ⟨_, _, rfl⟩
  have DK := Lib.hid hd
  have IP := Lib.hid (implDoCall_any _ _ A1 n1 c1 A2 n2 c2 A3 n3 c3 K x0 x1 x2 x3 wb (by have := NN.out; omega) KDb.out)
  have SP : Hid (∀ (W : World), KRead W w.heap.size w1.heap.size A1 n1 A2 n2 A3 n3 K → Calls Tryz.prog 32 #[.agg #[.slice A1 n1 c1, .slice A2 n2 c2, .slice A3 n3 c3, .int .i64 K.tick, .int .i64 K.run], .agg #[.int .i64 x0, .int .i64 x1, .int .i64 x2, .int .i64 x3]] W (KAns q L [] W)) := fun W hl => by
    have := specDoCall_any _ _ A1 n1 c1 A2 n2 c2 A3 n3 c3 K.tick K.run K x0 x1 x2 x3 W (by have := NN.out; omega) (by have := NN.out; omega) hl NIL.out rfl rfl
    rw [hd] at this; exact this
  rw [hd] at IP
  clear hd
  have q0 := cell_of_row wb _ 0 _ _ _ Kb.out; have q1 := cell_of_row wb _ 1 _ _ _ Kb.out; have q2 := cell_of_row wb _ 2 _ _ _ Kb.out; have q3 := cell_of_row wb _ 3 _ _ _ Kb.out; have q4 := cell_of_row wb _ 4 _ _ _ Kb.out
  have t0 := cell_of_row wb _ 0 _ _ _ Ab.out; have t1 := cell_of_row wb _ 1 _ _ _ Ab.out; have t2 := cell_of_row wb _ 2 _ _ _ Ab.out; have t3 := cell_of_row wb _ 3 _ _ _ Ab.out
  simp at q0 q1 q2 q3 q4 t0 t1 t2 t3
  go_wp2_with fail
  refine IP.out.mono ?_
  rintro e w2 ⟨p1, rfl, ho, hb⟩
  have ho : ROwn w2 wb.heap.size w2.heap.size p1 L [] := ho
  have O1 := Lib.hid ho
  have R2 := Lib.hid hb
  clear ho hb IP q0 q1 q2 q3 q4 t0 t1 t2 t3
  unfold Rp.val
  dsimp only
  obtain ⟨w3, hw3⟩ : ∃ V, V = w2.alloc (.cells #[.int .i64 q, .slice p1.A1 p1.n1 p1.c1, .slice p1.A2 p1.n2 p1.c2, .slice p1.A3 p1.n3 p1.c3, .int .i64 L.tick, .int .i64 L.run, .slice p1.A4 p1.n4 p1.c4] 61) := ⟨_, rfl⟩
  obtain ⟨b1, hb1⟩ : ∃ b, b = w2.heap.size := ⟨_, rfl⟩
  have Kw3 : Hid (w3.heap[b1]? = some (.cells #[.int .i64 q, .slice p1.A1 p1.n1 p1.c1, .slice p1.A2 p1.n2 p1.c2, .slice p1.A3 p1.n3 p1.c3, .int .i64 L.tick, .int .i64 L.run, .slice p1.A4 p1.n4 p1.c4] 61 (0, 0))) := by show _ = _; rw [hw3, hb1]; exact heap_alloc_new w2 _
  have Nw3 : Hid (Below w2.heap.size w2 w3) := by rw [hw3]; exact below_new w2 _
  have Zw3 : Hid (w3.heap.size = b1 + 1 ∧ b1 = w2.heap.size) := by show _ ∧ _; rw [hw3, hb1]; simp
  have HWw3 := Lib.hid hw3; have HBb1 := Lib.hid hb1
  clear hw3 hb1
  have N3 : Hid (Below wb.heap.size wb w3) := R2.out.trans (Nw3.out.mono R2.out.size)
  have K3 := Lib.hid ((N3.out.block bk (by have := ZZ.out; omega)).trans Kb.out)
  have A3' := Lib.hid ((N3.out.block bc (by have := ZZ.out; omega)).trans Ab.out)
  have KD3 : Hid (KRead w3 w.heap.size w1.heap.size A1 n1 A2 n2 A3 n3 K) := KDb.out.below N3.out (by have := ZZ.out; omega)
  have q0 := cell_of_row w3 _ 0 _ _ _ K3.out; have q1 := cell_of_row w3 _ 1 _ _ _ K3.out; have q2 := cell_of_row w3 _ 2 _ _ _ K3.out; have q3 := cell_of_row w3 _ 3 _ _ _ K3.out; have q4 := cell_of_row w3 _ 4 _ _ _ K3.out
  have t0 := cell_of_row w3 _ 0 _ _ _ A3'.out; have t1 := cell_of_row w3 _ 1 _ _ _ A3'.out; have t2 := cell_of_row w3 _ 2 _ _ _ A3'.out; have t3 := cell_of_row w3 _ 3 _ _ _ A3'.out
  simp at q0 q1 q2 q3 q4 t0 t1 t2 t3
  go_upto_region 5 with (fail)
  rw [← HWw3.out, ← HBb1.out]
  clear HWw3 HBb1
  go_wp2_with fail
  refine (SP.out w3 KD3.out).mono ?_
  rintro e w4 ⟨p2, rfl, ho, hb⟩
  have ho : ROwn w4 w3.heap.size w4.heap.size p2 L [] := ho
  have O2 := Lib.hid ho
  have R4 := Lib.hid hb
  clear ho hb SP q0 q1 q2 q3 q4 t0 t1 t2 t3 K3 A3' KD3
  unfold Rp.val
  dsimp only
  obtain ⟨w5, hw5⟩ : ∃ V, V = w4.alloc (.cells #[.int .i64 q, .slice p2.A1 p2.n1 p2.c1, .slice p2.A2 p2.n2 p2.c2, .slice p2.A3 p2.n3 p2.c3, .int .i64 L.tick, .int .i64 L.run, .slice p2.A4 p2.n4 p2.c4] 61) := ⟨_, rfl⟩
  obtain ⟨b2, hb2⟩ : ∃ b, b = w4.heap.size := ⟨_, rfl⟩
  have Kw5 : Hid (w5.heap[b2]? = some (.cells #[.int .i64 q, .slice p2.A1 p2.n1 p2.c1, .slice p2.A2 p2.n2 p2.c2, .slice p2.A3 p2.n3 p2.c3, .int .i64 L.tick, .int .i64 L.run, .slice p2.A4 p2.n4 p2.c4] 61 (0, 0))) := by show _ = _; rw [hw5, hb2]; exact heap_alloc_new w4 _
  have Nw5 : Hid (Below w4.heap.size w4 w5) := by rw [hw5]; exact below_new w4 _
  have Zw5 : Hid (w5.heap.size = b2 + 1 ∧ b2 = w4.heap.size) := by show _ ∧ _; rw [hw5, hb2]; simp
  have HWw5 := Lib.hid hw5; have HBb2 := Lib.hid hb2
  clear hw5 hb2
  go_upto_region 6 with (fail)
  rw [← HWw5.out, ← HBb2.out]
  clear HWw5 HBb2
  have U5 : Hid (Below w.heap.size w w5) := by
    have z3 := Zw3.out; have z5 := Zw5.out; have zz := ZZ.out
    have s1 := R1.out.size; have s2 := R2.out.size; have s4 := R4.out.size; have sn := N3.out.size
    exact R1.out.trans ((NB.out.trans ((N3.out.trans ((R4.out.trans (Nw5.out.mono s4)).mono sn)).mono (by omega))).mono s1)
  have DF := Lib.hid (DrawCallFault_any 0 w.heap.size A k c b w5 hk HBY.out (CD.out w5 U5.out))
  go_wp2_with fail
  refine DF.out.mono ?_
  rintro e w6 ⟨f0, f1, f2, f3, rfl, hb⟩
  have R6 := Lib.hid hb
  clear hb DF
  obtain ⟨w7, hw7⟩ : ∃ V, V = w6.alloc (.cells #[.int .i64 f0, .int .i64 f1, .int .i64 f2, .int .i64 f3] 55) := ⟨_, rfl⟩
  obtain ⟨bf, hbf⟩ : ∃ b, b = w6.heap.size := ⟨_, rfl⟩
  have Kw7 : Hid (w7.heap[bf]? = some (.cells #[.int .i64 f0, .int .i64 f1, .int .i64 f2, .int .i64 f3] 55 (0, 0))) := by show _ = _; rw [hw7, hbf]; exact heap_alloc_new w6 _
  have Nw7 : Hid (Below w6.heap.size w6 w7) := by rw [hw7]; exact below_new w6 _
  have Zw7 : Hid (w7.heap.size = bf + 1 ∧ bf = w6.heap.size) := by show _ ∧ _; rw [hw7, hbf]; simp
  have HWw7 := Lib.hid hw7; have HBbf := Lib.hid hbf
  clear hw7 hbf
  go_upto_region 7 with (fail)
  rw [← HWw7.out, ← HBbf.out]
  clear HWw7 HBbf
  have U57 : Hid (Below w5.heap.size w5 w7) := R6.out.trans (Nw7.out.mono R6.out.size)
  have DE := Lib.hid (DrawEventFault_any 0 w.heap.size A k c b w7 hk HBY.out (CD.out w7 (U5.out.trans (U57.out.mono U5.out.size))))
  go_wp2_with fail
  refine DE.out.mono ?_
  rintro e w8' ⟨e0, e1, e2, e3, e4, e5, e6, rfl, hb⟩
  obtain ⟨w8, hw8⟩ : ∃ V, V = w8' := ⟨_, rfl⟩
  rw [← hw8] at hb ⊢
  clear hw8
  have R8 := Lib.hid hb
  clear hb DE
  obtain ⟨w8b, hw8b⟩ : ∃ V, V = w8.alloc (.cells #[.int .i64 e0, .int .i64 e1, .int .i64 e2, .int .i64 e3, .int .i64 e4, .int .i64 e5, .int .i64 e6] 57) := ⟨_, rfl⟩
  obtain ⟨be, hbe⟩ : ∃ b, b = w8.heap.size := ⟨_, rfl⟩
  have Kw8b : Hid (w8b.heap[be]? = some (.cells #[.int .i64 e0, .int .i64 e1, .int .i64 e2, .int .i64 e3, .int .i64 e4, .int .i64 e5, .int .i64 e6] 57 (0, 0))) := by show _ = _; rw [hw8b, hbe]; exact heap_alloc_new w8 _
  have Nw8b : Hid (Below w8.heap.size w8 w8b) := by rw [hw8b]; exact below_new w8 _
  have Zw8b : Hid (w8b.heap.size = be + 1 ∧ be = w8.heap.size) := by show _ ∧ _; rw [hw8b, hbe]; simp
  have HWw8b := Lib.hid hw8b; have HBbe := Lib.hid hbe
  clear hw8b hbe
  go_upto_region 8 with (fail)
  rw [← HWw8b.out, ← HBbe.out]
  clear HWw8b HBbe
  have U58 : Hid (Below w5.heap.size w5 w8b) := U57.out.trans ((R8.out.trans (Nw8b.out.mono R8.out.size)).mono U57.out.size)
  have DN := Lib.hid (DrawNewKernel_any 0 w.heap.size A k c b w8b hk HBY.out (CD.out w8b (U5.out.trans (U58.out.mono U5.out.size))))
  go_wp2_with fail
  refine DN.out.mono ?_
  rintro e w9 ⟨m, rfl, hb⟩
  have R9 := Lib.hid hb
  have U59 : Hid (Below w5.heap.size w5 w9) := U58.out.trans (hb.mono U58.out.size)
  clear hb DN
  obtain ⟨xq, X, hx⟩ : ∃ xq X, nk m = (xq, X) := ⟨_, _, rfl⟩
  have NKX := Lib.hid hx
  have IN := Lib.hid (implNewKernel_any m w9)
  have SN : Hid (∀ W, Calls Tryz.prog 42 #[.int .i64 m] W (KAns xq X [] W)) := fun W => by have := specNewKernel_any m W; rw [hx] at this; exact this
  rw [hx] at IN
  clear hx
  go_wp2_with fail
  refine IN.out.mono ?_
  rintro e wc ⟨px, rfl, ho, hb⟩
  have ho : ROwn wc w9.heap.size wc.heap.size px X [] := ho
  have OX := Lib.hid ho
  have RC_ := Lib.hid hb
  clear ho hb IN
  unfold Rp.val
  dsimp only
  obtain ⟨wd, hwd⟩ : ∃ V, V = wc.alloc (.cells #[.int .i64 xq, .slice px.A1 px.n1 px.c1, .slice px.A2 px.n2 px.c2, .slice px.A3 px.n3 px.c3, .int .i64 X.tick, .int .i64 X.run, .slice px.A4 px.n4 px.c4] 61) := ⟨_, rfl⟩
  obtain ⟨bx, hbx⟩ : ∃ b, b = wc.heap.size := ⟨_, rfl⟩
  have Kwd : Hid (wd.heap[bx]? = some (.cells #[.int .i64 xq, .slice px.A1 px.n1 px.c1, .slice px.A2 px.n2 px.c2, .slice px.A3 px.n3 px.c3, .int .i64 X.tick, .int .i64 X.run, .slice px.A4 px.n4 px.c4] 61 (0, 0))) := by show _ = _; rw [hwd, hbx]; exact heap_alloc_new wc _
  have Nwd : Hid (Below wc.heap.size wc wd) := by rw [hwd]; exact below_new wc _
  have Zwd : Hid (wd.heap.size = bx + 1 ∧ bx = wc.heap.size) := by show _ ∧ _; rw [hwd, hbx]; simp
  have HWwd := Lib.hid hwd; have HBbx := Lib.hid hbx
  clear hwd hbx
  go_upto_region 10 with (fail)
  rw [← HWwd.out, ← HBbx.out]
  clear HWwd HBbx
  have U5d : Hid (Below w5.heap.size w5 wd) := U59.out.trans ((RC_.out.trans (Nwd.out.mono RC_.out.size)).mono U59.out.size)
  have DS := Lib.hid (DrawSameKernels_any 0 w.heap.size A k c b wd hk HBY.out (CD.out wd (U5.out.trans (U5d.out.mono U5.out.size))))
  go_wp2_with fail
  refine DS.out.mono ?_
  rintro e we ⟨B1, o1, i1, B2, o2, i2, B3, o3, i3, S, D1, m1, j1, D2, m2, j2, D3, m3, j3, T, rfl, hkS, hkT, hnS, hnT, hb⟩
  have KSS := Lib.hid hkS; have KTT := Lib.hid hkT; have NS := Lib.hid hnS; have NT := Lib.hid hnT
  have RE := Lib.hid hb
  clear hkS hkT hnS hnT hb DS
  go_upto_region 11 with (fail)
  obtain ⟨wf, hwf⟩ : ∃ V, V = we.alloc (.cells #[.slice B1 o1 i1, .slice B2 o2 i2, .slice B3 o3 i3, .int .i64 S.tick, .int .i64 S.run] 39) := ⟨_, rfl⟩
  obtain ⟨wg, hwg⟩ : ∃ V, V = wf.alloc (.cells #[.slice D1 m1 j1, .slice D2 m2 j2, .slice D3 m3 j3, .int .i64 T.tick, .int .i64 T.run] 39) := ⟨_, rfl⟩
  obtain ⟨sa, hsa⟩ : ∃ b, b = we.heap.size := ⟨_, rfl⟩
  obtain ⟨sb, hsb⟩ : ∃ b, b = sa + 1 := ⟨_, rfl⟩
  have Nf : Below we.heap.size we wf := by rw [hwf]; exact below_new we _
  have Ng : Below wf.heap.size wf wg := by rw [hwg]; exact below_new wf _
  have zf : wf.heap.size = sa + 1 := by rw [hwf, hsa]; simp
  have zg : wg.heap.size = sa + 2 := by rw [hwg]; simp; omega
  have Sf : wf.heap[sa]? = some (.cells #[.slice B1 o1 i1, .slice B2 o2 i2, .slice B3 o3 i3, .int .i64 S.tick, .int .i64 S.run] 39 (0, 0)) := by rw [hwf, hsa]; exact heap_alloc_new we _
  have Sg : Hid (wg.heap[sa]? = some (.cells #[.slice B1 o1 i1, .slice B2 o2 i2, .slice B3 o3 i3, .int .i64 S.tick, .int .i64 S.run] 39 (0, 0))) := (Ng.block sa (by omega)).trans Sf
  have Tg : Hid (wg.heap[sb]? = some (.cells #[.slice D1 m1 j1, .slice D2 m2 j2, .slice D3 m3 j3, .int .i64 T.tick, .int .i64 T.run] 39 (0, 0))) := by show _ = _; rw [hwg, hsb, ← zf]; exact heap_alloc_new wf _
  have NG : Hid (Below we.heap.size we wg) := Nf.trans (Ng.mono (by omega))
  rw [← hwf, ← hwg, ← hsa, ← hsb]
  have ZG : Hid (we.heap.size = sa ∧ sb = sa + 1 ∧ wg.heap.size = sa + 2) := ⟨hsa.symm, hsb, zg⟩
  clear hwf hwg hsa hsb Nf Ng zf zg Sf
  have F : Hid (∀ W, Below wg.heap.size wg W → (W.cell? ⟨bk, 0, none⟩ = some (.slice A1 n1 c1) ∧ W.cell? ⟨bk, 1, none⟩ = some (.slice A2 n2 c2) ∧ W.cell? ⟨bk, 2, none⟩ = some (.slice A3 n3 c3) ∧ W.cell? ⟨bk, 3, none⟩ = some (.int .i64 K.tick) ∧ W.cell? ⟨bk, 4, none⟩ = some (.int .i64 K.run)) ∧ (W.cell? ⟨bc, 0, none⟩ = some (.int .i64 x0) ∧ W.cell? ⟨bc, 1, none⟩ = some (.int .i64 x1) ∧ W.cell? ⟨bc, 2, none⟩ = some (.int .i64 x2) ∧ W.cell? ⟨bc, 3, none⟩ = some (.int .i64 x3)) ∧ (W.cell? ⟨b1, 0, none⟩ = some (.int .i64 q) ∧ W.cell? ⟨b1, 1, none⟩ = some (.slice p1.A1 p1.n1 p1.c1) ∧ W.cell? ⟨b1, 2, none⟩ = some (.slice p1.A2 p1.n2 p1.c2) ∧ W.cell? ⟨b1, 3, none⟩ = some (.slice p1.A3 p1.n3 p1.c3) ∧ W.cell? ⟨b1, 4, none⟩ = some (.int .i64 L.tick) ∧ W.cell? ⟨b1, 5, none⟩ = some (.int .i64 L.run) ∧ W.cell? ⟨b1, 6, none⟩ = some (.slice p1.A4 p1.n4 p1.c4)) ∧ (W.cell? ⟨b2, 0, none⟩ = some (.int .i64 q) ∧ W.cell? ⟨b2, 1, none⟩ = some (.slice p2.A1 p2.n1 p2.c1) ∧ W.cell? ⟨b2, 2, none⟩ = some (.slice p2.A2 p2.n2 p2.c2) ∧ W.cell? ⟨b2, 3, none⟩ = some (.slice p2.A3 p2.n3 p2.c3) ∧ W.cell? ⟨b2, 4, none⟩ = some (.int .i64 L.tick) ∧ W.cell? ⟨b2, 5, none⟩ = some (.int .i64 L.run) ∧ W.cell? ⟨b2, 6, none⟩ = some (.slice p2.A4 p2.n4 p2.c4)) ∧ (W.cell? ⟨bf, 0, none⟩ = some (.int .i64 f0) ∧ W.cell? ⟨bf, 1, none⟩ = some (.int .i64 f1) ∧ W.cell? ⟨bf, 2, none⟩ = some (.int .i64 f2) ∧ W.cell? ⟨bf, 3, none⟩ = some (.int .i64 f3)) ∧ (W.cell? ⟨be, 0, none⟩ = some (.int .i64 e0) ∧ W.cell? ⟨be, 1, none⟩ = some (.int .i64 e1) ∧ W.cell? ⟨be, 2, none⟩ = some (.int .i64 e2) ∧ W.cell? ⟨be, 3, none⟩ = some (.int .i64 e3) ∧ W.cell? ⟨be, 4, none⟩ = some (.int .i64 e4) ∧ W.cell? ⟨be, 5, none⟩ = some (.int .i64 e5) ∧ W.cell? ⟨be, 6, none⟩ = some (.int .i64 e6)) ∧ (W.cell? ⟨bx, 0, none⟩ = some (.int .i64 xq) ∧ W.cell? ⟨bx, 1, none⟩ = some (.slice px.A1 px.n1 px.c1) ∧ W.cell? ⟨bx, 2, none⟩ = some (.slice px.A2 px.n2 px.c2) ∧ W.cell? ⟨bx, 3, none⟩ = some (.slice px.A3 px.n3 px.c3) ∧ W.cell? ⟨bx, 4, none⟩ = some (.int .i64 X.tick) ∧ W.cell? ⟨bx, 5, none⟩ = some (.int .i64 X.run) ∧ W.cell? ⟨bx, 6, none⟩ = some (.slice px.A4 px.n4 px.c4)) ∧ (W.cell? ⟨sa, 0, none⟩ = some (.slice B1 o1 i1) ∧ W.cell? ⟨sa, 1, none⟩ = some (.slice B2 o2 i2) ∧ W.cell? ⟨sa, 2, none⟩ = some (.slice B3 o3 i3) ∧ W.cell? ⟨sa, 3, none⟩ = some (.int .i64 S.tick) ∧ W.cell? ⟨sa, 4, none⟩ = some (.int .i64 S.run)) ∧ (W.cell? ⟨sb, 0, none⟩ = some (.slice D1 m1 j1) ∧ W.cell? ⟨sb, 1, none⟩ = some (.slice D2 m2 j2) ∧ W.cell? ⟨sb, 2, none⟩ = some (.slice D3 m3 j3) ∧ W.cell? ⟨sb, 3, none⟩ = some (.int .i64 T.tick) ∧ W.cell? ⟨sb, 4, none⟩ = some (.int .i64 T.run)) ∧ KRead W w.heap.size w1.heap.size A1 n1 A2 n2 A3 n3 K ∧ ROwn W wb.heap.size w2.heap.size p1 L [] ∧ ROwn W w3.heap.size w4.heap.size p2 L [] ∧ ROwn W w9.heap.size wc.heap.size px X [] ∧ KRead W wd.heap.size we.heap.size B1 o1 B2 o2 B3 o3 S ∧ KRead W wd.heap.size we.heap.size D1 m1 D2 m2 D3 m3 T ∧ Below w.heap.size w W) := fun W hW => by
    have z3 := Zw3.out; have z5 := Zw5.out; have zz := ZZ.out; have z7 := Zw7.out; have z8 := Zw8b.out; have zd := Zwd.out; have zg := ZG.out
    have s1 := R1.out.size; have s2 := R2.out.size; have s4 := R4.out.size; have sn := N3.out.size; have s6 := R6.out.size; have s8 := R8.out.size; have s9 := R9.out.size; have sc := RC_.out.size; have se := RE.out.size
    have ee : Below we.heap.size we W := NG.out.trans (hW.mono (by omega))
    have ed : Below wd.heap.size wd W := RE.out.trans (ee.mono se)
    have ec : Below wc.heap.size wc W := Nwd.out.trans (ed.mono (by omega))
    have e9 : Below w9.heap.size w9 W := RC_.out.trans (ec.mono sc)
    have e8b : Below w8b.heap.size w8b W := R9.out.trans (e9.mono s9)
    have e8 : Below w8.heap.size w8 W := Nw8b.out.trans (e8b.mono (by omega))
    have e7 : Below w7.heap.size w7 W := R8.out.trans (e8.mono s8)
    have e6 : Below w6.heap.size w6 W := Nw7.out.trans (e7.mono (by omega))
    have e5 : Below w5.heap.size w5 W := R6.out.trans (e6.mono s6)
    have e4 : Below w4.heap.size w4 W := Nw5.out.trans (e5.mono (by omega))
    have e3 : Below w3.heap.size w3 W := R4.out.trans (e4.mono s4)
    have e2 : Below w2.heap.size w2 W := Nw3.out.trans (e3.mono (by omega))
    have eb : Below wb.heap.size wb W := N3.out.trans (e3.mono sn)
    have e1 : Below w1.heap.size w1 W := NB.out.trans (eb.mono (by omega))
    have jk := (eb.block bk (by omega)).trans Kb.out
    have jc := (eb.block bc (by omega)).trans Ab.out
    have j1 := (e3.block b1 (by omega)).trans Kw3.out
    have j2 := (e5.block b2 (by omega)).trans Kw5.out
    have jf := (e7.block bf (by omega)).trans Kw7.out
    have je := (e8b.block be (by omega)).trans Kw8b.out
    have jx := (ed.block bx (by omega)).trans Kwd.out
    have ja := (hW.block sa (by omega)).trans Sg.out
    have jb := (hW.block sb (by omega)).trans Tg.out
    exact ⟨⟨cell_of_row W _ 0 _ _ _ jk, cell_of_row W _ 1 _ _ _ jk, cell_of_row W _ 2 _ _ _ jk, cell_of_row W _ 3 _ _ _ jk, cell_of_row W _ 4 _ _ _ jk⟩, ⟨cell_of_row W _ 0 _ _ _ jc, cell_of_row W _ 1 _ _ _ jc, cell_of_row W _ 2 _ _ _ jc, cell_of_row W _ 3 _ _ _ jc⟩, ⟨cell_of_row W _ 0 _ _ _ j1, cell_of_row W _ 1 _ _ _ j1, cell_of_row W _ 2 _ _ _ j1, cell_of_row W _ 3 _ _ _ j1, cell_of_row W _ 4 _ _ _ j1, cell_of_row W _ 5 _ _ _ j1, cell_of_row W _ 6 _ _ _ j1⟩, ⟨cell_of_row W _ 0 _ _ _ j2, cell_of_row W _ 1 _ _ _ j2, cell_of_row W _ 2 _ _ _ j2, cell_of_row W _ 3 _ _ _ j2, cell_of_row W _ 4 _ _ _ j2, cell_of_row W _ 5 _ _ _ j2, cell_of_row W _ 6 _ _ _ j2⟩, ⟨cell_of_row W _ 0 _ _ _ jf, cell_of_row W _ 1 _ _ _ jf, cell_of_row W _ 2 _ _ _ jf, cell_of_row W _ 3 _ _ _ jf⟩, ⟨cell_of_row W _ 0 _ _ _ je, cell_of_row W _ 1 _ _ _ je, cell_of_row W _ 2 _ _ _ je, cell_of_row W _ 3 _ _ _ je, cell_of_row W _ 4 _ _ _ je, cell_of_row W _ 5 _ _ _ je, cell_of_row W _ 6 _ _ _ je⟩, ⟨cell_of_row W _ 0 _ _ _ jx, cell_of_row W _ 1 _ _ _ jx, cell_of_row W _ 2 _ _ _ jx, cell_of_row W _ 3 _ _ _ jx, cell_of_row W _ 4 _ _ _ jx, cell_of_row W _ 5 _ _ _ jx, cell_of_row W _ 6 _ _ _ jx⟩, ⟨cell_of_row W _ 0 _ _ _ ja, cell_of_row W _ 1 _ _ _ ja, cell_of_row W _ 2 _ _ _ ja, cell_of_row W _ 3 _ _ _ ja, cell_of_row W _ 4 _ _ _ ja⟩, ⟨cell_of_row W _ 0 _ _ _ jb, cell_of_row W _ 1 _ _ _ jb, cell_of_row W _ 2 _ _ _ jb, cell_of_row W _ 3 _ _ _ jb, cell_of_row W _ 4 _ _ _ jb⟩, KDb.out.below eb (by omega), O1.out.keep10 e2, O2.out.keep10 e4, OX.out.keep10 ec, KSS.out.below ee (Nat.le_refl _), KTT.out.below ee (Nat.le_refl _), R1.out.trans (e1.mono s1)⟩
  have PB : Hid ((p1.n1 ≤ 12 ∧ p1.n2 ≤ 4 ∧ p1.n3 ≤ 5) ∧ p1.n4 = 0 ∧ p2.n1 = p1.n1 ∧ (px.n1 ≤ 12 ∧ px.n2 ≤ 4 ∧ px.n3 ≤ 5)) := by
    have sb := docall_shape DK.out
    have sx := (nk_good NKX.out).1
    have g1 := O1.out.l1; have g2 := O1.out.l2; have g3 := O1.out.l3; have g4 := O1.out.l4
    have f1 := O2.out.l1
    have x1 := OX.out.l1; have x2 := OX.out.l2; have x3 := OX.out.l3
    simp only [List.length_nil] at g4
    show _ ∧ _
    omega
  clear O1 O2 OX KSS KTT Kw3 Kw5 Kw7 Kw8b Kwd Nw3 Nw5 Nw7 Nw8b Nwd R1 R2 R4 R6 R8 R9 RC_ RE Zw3 Zw5 Zw7 Zw8b Zwd ZZ ZG NB NG N3 Kb Ab KDb Sg Tg U5 U57 U58 U59 U5d CD HBY
  have KH : Hid (∀ W, Below wg.heap.size wg W → ((W.cell? ⟨b1, 0, none⟩ = some (.int .i64 q) ∧ W.cell? ⟨b1, 1, none⟩ = some (.slice p1.A1 p1.n1 p1.c1) ∧ W.cell? ⟨b1, 2, none⟩ = some (.slice p1.A2 p1.n2 p1.c2) ∧ W.cell? ⟨b1, 3, none⟩ = some (.slice p1.A3 p1.n3 p1.c3) ∧ W.cell? ⟨b1, 4, none⟩ = some (.int .i64 L.tick) ∧ W.cell? ⟨b1, 5, none⟩ = some (.int .i64 L.run)) ∧ (W.cell? ⟨b2, 0, none⟩ = some (.int .i64 q) ∧ W.cell? ⟨b2, 1, none⟩ = some (.slice p2.A1 p2.n1 p2.c1) ∧ W.cell? ⟨b2, 2, none⟩ = some (.slice p2.A2 p2.n2 p2.c2) ∧ W.cell? ⟨b2, 3, none⟩ = some (.slice p2.A3 p2.n3 p2.c3) ∧ W.cell? ⟨b2, 4, none⟩ = some (.int .i64 L.tick) ∧ W.cell? ⟨b2, 5, none⟩ = some (.int .i64 L.run)) ∧ (W.cell? ⟨bf, 0, none⟩ = some (.int .i64 f0) ∧ W.cell? ⟨bf, 1, none⟩ = some (.int .i64 f1) ∧ W.cell? ⟨bf, 2, none⟩ = some (.int .i64 f2) ∧ W.cell? ⟨bf, 3, none⟩ = some (.int .i64 f3)) ∧ (W.cell? ⟨be, 0, none⟩ = some (.int .i64 e0) ∧ W.cell? ⟨be, 1, none⟩ = some (.int .i64 e1) ∧ W.cell? ⟨be, 2, none⟩ = some (.int .i64 e2) ∧ W.cell? ⟨be, 3, none⟩ = some (.int .i64 e3) ∧ W.cell? ⟨be, 4, none⟩ = some (.int .i64 e4) ∧ W.cell? ⟨be, 5, none⟩ = some (.int .i64 e5) ∧ W.cell? ⟨be, 6, none⟩ = some (.int .i64 e6)) ∧ W.cell? ⟨bx, 0, none⟩ = some (.int .i64 xq) ∧ (W.cell? ⟨sa, 0, none⟩ = some (.slice B1 o1 i1) ∧ W.cell? ⟨sa, 1, none⟩ = some (.slice B2 o2 i2) ∧ W.cell? ⟨sa, 2, none⟩ = some (.slice B3 o3 i3) ∧ W.cell? ⟨sa, 3, none⟩ = some (.int .i64 S.tick) ∧ W.cell? ⟨sa, 4, none⟩ = some (.int .i64 S.run)) ∧ (W.cell? ⟨sb, 0, none⟩ = some (.slice D1 m1 j1) ∧ W.cell? ⟨sb, 1, none⟩ = some (.slice D2 m2 j2) ∧ W.cell? ⟨sb, 2, none⟩ = some (.slice D3 m3 j3) ∧ W.cell? ⟨sb, 3, none⟩ = some (.int .i64 T.tick) ∧ W.cell? ⟨sb, 4, none⟩ = some (.int .i64 T.run)) ∧ (W.cell? ⟨bk, 0, none⟩ = some (.slice A1 n1 c1) ∧ W.cell? ⟨bk, 1, none⟩ = some (.slice A2 n2 c2) ∧ W.cell? ⟨bk, 2, none⟩ = some (.slice A3 n3 c3) ∧ W.cell? ⟨bk, 3, none⟩ = some (.int .i64 K.tick) ∧ W.cell? ⟨bk, 4, none⟩ = some (.int .i64 K.run))) ∧ Below wg.heap.size wg W) := fun W hW => by
    obtain ⟨hk_, _, ⟨r0, r1, r2, r3, r4, r5, _⟩, ⟨s0, s1, s2, s3, s4, s5, _⟩, hf_, he_, ⟨x0_, _⟩, ha_, hb_, _⟩ := F.out W hW
    exact ⟨⟨⟨r0, r1, r2, r3, r4, r5⟩, ⟨s0, s1, s2, s3, s4, s5⟩, hf_, he_, x0_, ha_, hb_, hk_⟩, hW⟩
  have UP : ∀ {W W' : World}, Below wg.heap.size wg W → Below W.heap.size W W' → Below wg.heap.size wg W' := fun a b => a.trans (b.mono a.size)
  have SK1 : Hid (∀ W, Below wg.heap.size wg W → Calls Tryz.prog 26 #[.agg #[.slice p1.A1 p1.n1 p1.c1, .slice p1.A2 p1.n2 p1.c2, .slice p1.A3 p1.n3 p1.c3, .int .i64 L.tick, .int .i64 L.run], .agg #[.slice p2.A1 p2.n1 p2.c1, .slice p2.A2 p2.n2 p2.c2, .slice p2.A3 p2.n3 p2.c3, .int .i64 L.tick, .int .i64 L.run]] W fun e w' => e = .returned (.bool true) ∧ Below wg.heap.size wg w') := fun W hW => by
    obtain ⟨_, _, _, _, _, _, _, _, _, _, o1, o2, _⟩ := F.out W hW
    exact (implSK_same10 _ _ _ _ p1 p2 L [] [] W (by have := PB.out; omega) (by have := PB.out; omega) o1 o2).mono fun e w' hh => ⟨hh.1, UP hW hh.2⟩
  obtain ⟨fq, hfq⟩ : ∃ fq, cf f0 f1 f2 f3 = fq := ⟨_, rfl⟩
  obtain ⟨eq_, heq⟩ : ∃ eq_, evf e0 e1 e2 e3 e4 e5 e6 = eq_ := ⟨_, rfl⟩
  obtain ⟨kq, hkq⟩ : ∃ kq, kf K = kq := ⟨_, rfl⟩
  obtain ⟨sq, hsq⟩ : ∃ sq, decide (S = T) = sq := ⟨_, rfl⟩
  have CF1 : Hid (∀ W, Below wg.heap.size wg W → Calls Tryz.prog 38 #[.agg #[.int .i64 f0, .int .i64 f1, .int .i64 f2, .int .i64 f3]] W fun e w' => e = .returned (.int .i64 fq) ∧ Below wg.heap.size wg w') := fun W hW => (implCallFault_any f0 f1 f2 f3 W).mono fun e w' hh => ⟨hh.1.trans (by rw [hfq]), UP hW hh.2⟩
  have CF2 : Hid (∀ W, Below wg.heap.size wg W → Calls Tryz.prog 39 #[.agg #[.int .i64 f0, .int .i64 f1, .int .i64 f2, .int .i64 f3]] W fun e w' => e = .returned (.int .i64 fq) ∧ Below wg.heap.size wg w') := fun W hW => (specCallFault_any f0 f1 f2 f3 W).mono fun e w' hh => ⟨hh.1.trans (by rw [hfq]), UP hW hh.2⟩
  have EF1 : Hid (∀ W, Below wg.heap.size wg W → Calls Tryz.prog 40 #[.agg #[.int .i64 e0, .int .i64 e1, .int .i64 e2, .int .i64 e3, .int .i64 e4, .int .i64 e5, .int .i64 e6]] W fun e w' => e = .returned (.int .i64 eq_) ∧ Below wg.heap.size wg w') := fun W hW => (implEventFault_any e0 e1 e2 e3 e4 e5 e6 W).mono fun e w' hh => ⟨hh.1.trans (by rw [heq]), UP hW hh.2⟩
  have EF2 : Hid (∀ W, Below wg.heap.size wg W → Calls Tryz.prog 41 #[.agg #[.int .i64 e0, .int .i64 e1, .int .i64 e2, .int .i64 e3, .int .i64 e4, .int .i64 e5, .int .i64 e6]] W fun e w' => e = .returned (.int .i64 eq_) ∧ Below wg.heap.size wg w') := fun W hW => (specEventFault_any e0 e1 e2 e3 e4 e5 e6 W).mono fun e w' hh => ⟨hh.1.trans (by rw [heq]), UP hW hh.2⟩
  have NK : Hid (∀ W, Below wg.heap.size wg W → Calls Tryz.prog 42 #[.int .i64 m] W fun e w' => ∃ py : Rp, e = .returned (.agg #[.int .i64 xq, .slice py.A1 py.n1 py.c1, .slice py.A2 py.n2 py.c2, .slice py.A3 py.n3 py.c3, .int .i64 X.tick, .int .i64 X.run, .slice py.A4 py.n4 py.c4]) ∧ Below wg.heap.size wg w') := fun W hW => (SN.out W).mono fun e w' hh => by
    obtain ⟨py, he, _, hb⟩ := hh
    exact ⟨py, he, UP hW hb⟩
  have SK2 : Hid (∀ W, Below wg.heap.size wg W → Calls Tryz.prog 26 #[.agg #[.slice B1 o1 i1, .slice B2 o2 i2, .slice B3 o3 i3, .int .i64 S.tick, .int .i64 S.run], .agg #[.slice D1 m1 j1, .slice D2 m2 j2, .slice D3 m3 j3, .int .i64 T.tick, .int .i64 T.run]] W fun e w' => e = .returned (.bool sq) ∧ Below wg.heap.size wg w') := fun W hW => by
    obtain ⟨_, _, _, _, _, _, _, _, _, _, _, _, _, kS, kT, _⟩ := F.out W hW
    exact (implSameKernels_any _ _ _ _ B1 o1 i1 B2 o2 i2 B3 o3 i3 D1 m1 j1 D2 m2 j2 D3 m3 j3 S T W (by have := NS.out; omega) (by have := NS.out; omega) (by have := NS.out; omega) kS kT).mono fun e w' hh => ⟨hh.1.trans (by rw [hsq]), UP hW hh.2⟩
  have SK3 : Hid (∀ W, Below wg.heap.size wg W → Calls Tryz.prog 43 #[.agg #[.slice B1 o1 i1, .slice B2 o2 i2, .slice B3 o3 i3, .int .i64 S.tick, .int .i64 S.run], .agg #[.slice D1 m1 j1, .slice D2 m2 j2, .slice D3 m3 j3, .int .i64 T.tick, .int .i64 T.run]] W fun e w' => e = .returned (.bool sq) ∧ Below wg.heap.size wg w') := fun W hW => by
    obtain ⟨_, _, _, _, _, _, _, _, _, _, _, _, _, kS, kT, _⟩ := F.out W hW
    exact (specSameKernels_any _ _ _ _ B1 o1 i1 B2 o2 i2 B3 o3 i3 D1 m1 j1 D2 m2 j2 D3 m3 j3 S T W (by have := NS.out; omega) (by have := NS.out; omega) (by have := NS.out; omega) kS kT).mono fun e w' hh => ⟨hh.1.trans (by rw [hsq]), UP hW hh.2⟩
  have KF1 : Hid (∀ W, Below wg.heap.size wg W → Calls Tryz.prog 28 #[.agg #[.slice A1 n1 c1, .slice A2 n2 c2, .slice A3 n3 c3, .int .i64 K.tick, .int .i64 K.run]] W fun e w' => e = .returned (.int .i64 kq) ∧ Below wg.heap.size wg w') := fun W hW => by
    obtain ⟨_, _, _, _, _, _, _, _, _, kd, _⟩ := F.out W hW
    exact (implKernelFault_any _ _ A1 n1 c1 A2 n2 c2 A3 n3 c3 K.tick K.run K W (by have := NN.out; omega) kd rfl rfl).mono fun e w' hh => ⟨hh.1.trans (by rw [hkq]), UP hW hh.2⟩
  have KF2 : Hid (∀ W, Below wg.heap.size wg W → Calls Tryz.prog 44 #[.agg #[.slice A1 n1 c1, .slice A2 n2 c2, .slice A3 n3 c3, .int .i64 K.tick, .int .i64 K.run]] W fun e w' => e = .returned (.int .i64 kq) ∧ Below wg.heap.size wg w') := fun W hW => by
    obtain ⟨_, _, _, _, _, _, _, _, _, kd, _⟩ := F.out W hW
    exact (specKernelFault_any _ _ A1 n1 c1 A2 n2 c2 A3 n3 c3 K.tick K.run K W (by have := NN.out; omega) (by have := NN.out; omega) kd rfl rfl).mono fun e w' hh => ⟨hh.1.trans (by rw [hkq]), UP hW hh.2⟩
  clear hfq heq hkq hsq SN UP
  have hq : (q != q) = false := by simp
  have y1 : (fq != fq) = false := by simp
  have y2 : (eq_ != eq_) = false := by simp
  have y3 : (kq != kq) = false := by simp
  have y4 : (sq != sq) = false := by simp
  have y5 : (xq != xq) = false := by simp
  have RF := fun (a t u : Int) (A B C D : Option Addr) (k c m d i j n r : Nat) (W : World) => run_kr10 a t u A B C D k c m d i j n r W
  refine wp_region_held_drew (S := fun W => ((W.cell? ⟨b1, 0, none⟩ = some (.int .i64 q) ∧ W.cell? ⟨b1, 1, none⟩ = some (.slice p1.A1 p1.n1 p1.c1) ∧ W.cell? ⟨b1, 2, none⟩ = some (.slice p1.A2 p1.n2 p1.c2) ∧ W.cell? ⟨b1, 3, none⟩ = some (.slice p1.A3 p1.n3 p1.c3) ∧ W.cell? ⟨b1, 4, none⟩ = some (.int .i64 L.tick) ∧ W.cell? ⟨b1, 5, none⟩ = some (.int .i64 L.run)) ∧ (W.cell? ⟨b2, 0, none⟩ = some (.int .i64 q) ∧ W.cell? ⟨b2, 1, none⟩ = some (.slice p2.A1 p2.n1 p2.c1) ∧ W.cell? ⟨b2, 2, none⟩ = some (.slice p2.A2 p2.n2 p2.c2) ∧ W.cell? ⟨b2, 3, none⟩ = some (.slice p2.A3 p2.n3 p2.c3) ∧ W.cell? ⟨b2, 4, none⟩ = some (.int .i64 L.tick) ∧ W.cell? ⟨b2, 5, none⟩ = some (.int .i64 L.run)) ∧ (W.cell? ⟨bf, 0, none⟩ = some (.int .i64 f0) ∧ W.cell? ⟨bf, 1, none⟩ = some (.int .i64 f1) ∧ W.cell? ⟨bf, 2, none⟩ = some (.int .i64 f2) ∧ W.cell? ⟨bf, 3, none⟩ = some (.int .i64 f3)) ∧ (W.cell? ⟨be, 0, none⟩ = some (.int .i64 e0) ∧ W.cell? ⟨be, 1, none⟩ = some (.int .i64 e1) ∧ W.cell? ⟨be, 2, none⟩ = some (.int .i64 e2) ∧ W.cell? ⟨be, 3, none⟩ = some (.int .i64 e3) ∧ W.cell? ⟨be, 4, none⟩ = some (.int .i64 e4) ∧ W.cell? ⟨be, 5, none⟩ = some (.int .i64 e5) ∧ W.cell? ⟨be, 6, none⟩ = some (.int .i64 e6)) ∧ W.cell? ⟨bx, 0, none⟩ = some (.int .i64 xq) ∧ (W.cell? ⟨sa, 0, none⟩ = some (.slice B1 o1 i1) ∧ W.cell? ⟨sa, 1, none⟩ = some (.slice B2 o2 i2) ∧ W.cell? ⟨sa, 2, none⟩ = some (.slice B3 o3 i3) ∧ W.cell? ⟨sa, 3, none⟩ = some (.int .i64 S.tick) ∧ W.cell? ⟨sa, 4, none⟩ = some (.int .i64 S.run)) ∧ (W.cell? ⟨sb, 0, none⟩ = some (.slice D1 m1 j1) ∧ W.cell? ⟨sb, 1, none⟩ = some (.slice D2 m2 j2) ∧ W.cell? ⟨sb, 2, none⟩ = some (.slice D3 m3 j3) ∧ W.cell? ⟨sb, 3, none⟩ = some (.int .i64 T.tick) ∧ W.cell? ⟨sb, 4, none⟩ = some (.int .i64 T.run)) ∧ (W.cell? ⟨bk, 0, none⟩ = some (.slice A1 n1 c1) ∧ W.cell? ⟨bk, 1, none⟩ = some (.slice A2 n2 c2) ∧ W.cell? ⟨bk, 2, none⟩ = some (.slice A3 n3 c3) ∧ W.cell? ⟨bk, 3, none⟩ = some (.int .i64 K.tick) ∧ W.cell? ⟨bk, 4, none⟩ = some (.int .i64 K.run))) ∧ Below wg.heap.size wg W) (by kernel_rfl) (KH.out _ (Below.drew (Below.refl _ _))) (fun hHeld => ?_)
  obtain ⟨v0, hv0⟩ : ∃ v0, v0 = wg.drew := ⟨_, rfl⟩
  have BL0 : Hid (Below wg.heap.size wg v0) := by rw [hv0]; exact Below.drew (Below.refl _ _)
  rw [← hv0] at hHeld ⊢
  clear hv0
  refine tkH 0 ?_ rfl ?_ hHeld ?_; rotate_left; (intro w hSw; (try dsimp only at hSw); go_simp; try with_reducible rfl); try simp only [Act.put, zz1, zz2, zz3, zz4, zz5, zz6]
  refine tkH 1 ?_ rfl ?_ hHeld ?_; rotate_left; (intro w hSw; (try dsimp only at hSw); go_simp; try with_reducible rfl); try simp only [Act.put, zz1, zz2, zz3, zz4, zz5, zz6]
  refine tkH 2 ?_ rfl ?_ hHeld ?_; rotate_left; (intro w hSw; (try dsimp only at hSw); go_simp; try with_reducible rfl); try simp only [Act.put, zz1, zz2, zz3, zz4, zz5, zz6]
  refine tkH 3 ?_ rfl ?_ hHeld ?_; rotate_left; (intro w hSw; (try dsimp only at hSw); go_simp; try with_reducible rfl); try simp only [Act.put, zz1, zz2, zz3, zz4, zz5, zz6]
  refine tkH 4 ?_ rfl ?_ hHeld ?_; rotate_left; (intro w hSw; (try dsimp only at hSw); go_simp; try with_reducible rfl); try simp only [Act.put, zz1, zz2, zz3, zz4, zz5, zz6]
  refine tkH 5 ?_ rfl ?_ hHeld ?_; rotate_left; (intro w hSw; (try dsimp only at hSw); go_simp; try with_reducible rfl); try simp only [Act.put, zz1, zz2, zz3, zz4, zz5, zz6]
  refine tkH 6 ?_ rfl ?_ hHeld ?_; rotate_left; (intro w hSw; (try dsimp only at hSw); go_simp; try with_reducible rfl); try simp only [Act.put, zz1, zz2, zz3, zz4, zz5, zz6]
  refine tkH 7 ?_ rfl ?_ hHeld ?_; rotate_left; (intro w hSw; (try dsimp only at hSw); go_simp; try with_reducible rfl); try simp only [Act.put, zz1, zz2, zz3, zz4, zz5, zz6]
  refine tkH 8 ?_ rfl ?_ hHeld ?_; rotate_left; (intro w hSw; (try dsimp only at hSw); go_simp; try with_reducible rfl); try simp only [Act.put, zz1, zz2, zz3, zz4, zz5, zz6]
  refine tkH 9 ?_ rfl ?_ hHeld ?_; rotate_left; (intro w hSw; (try dsimp only at hSw); go_simp; try with_reducible rfl); try simp only [Act.put, zz1, zz2, zz3, zz4, zz5, zz6]
  refine wpAnyH_ready (rs := [10]) (by kernel_rfl) (by simp) ?_
  refine AllReadyH.cons (o := _) rfl (fun K0 hK0 => ?_) AllReadyH.nil
  go_simp
  refine (SK1.out _ (by go_split_ands; assumption)).mono ?_
  rintro e9 v1 ⟨rfl, hv1⟩
  go_wp2_with fail
  skip
  refine hK0.out _ _ (KH.out _ hv1) (fun hHeld => ?_)
  clear hK0 K0
  try simp only [Act.put, zz1, zz2, zz3, zz4, zz5, zz6]
  refine tkH 11 ?_ rfl ?_ hHeld ?_; rotate_left; (intro w hSw; (try dsimp only at hSw); go_simp; try with_reducible rfl); try simp only [Act.put, zz1, zz2, zz3, zz4, zz5, zz6]
  refine tkH 12 ?_ rfl ?_ hHeld ?_; rotate_left; (intro w hSw; (try dsimp only at hSw); go_simp; try with_reducible rfl); try simp only [Act.put, zz1, zz2, zz3, zz4, zz5, zz6]
  refine tkH 13 ?_ rfl ?_ hHeld ?_; rotate_left; (intro w hSw; (try dsimp only at hSw); go_simp; try with_reducible rfl); try simp only [Act.put, zz1, zz2, zz3, zz4, zz5, zz6]
  refine tkH 14 ?_ rfl ?_ hHeld ?_; rotate_left; (intro w hSw; (try dsimp only at hSw); go_simp; try with_reducible rfl); try simp only [Act.put, zz1, zz2, zz3, zz4, zz5, zz6]
  refine tkH 16 ?_ rfl ?_ hHeld ?_; rotate_left; (intro w hSw; (try dsimp only at hSw); go_simp; try with_reducible rfl); try simp only [Act.put, zz1, zz2, zz3, zz4, zz5, zz6]
  refine wpAnyH_ready (rs := [15]) (by kernel_rfl) (by simp) ?_
  refine AllReadyH.cons (o := _) rfl (fun K0 hK0 => ?_) AllReadyH.nil
  go_simp
  refine (CF1.out _ (by go_split_ands; assumption)).mono ?_
  rintro e9 v2 ⟨rfl, hv2⟩
  go_wp2_with fail
  skip
  refine hK0.out _ _ (KH.out _ hv2) (fun hHeld => ?_)
  clear hK0 K0
  try simp only [Act.put, zz1, zz2, zz3, zz4, zz5, zz6]
  refine wpAnyH_ready (rs := [17]) (by kernel_rfl) (by simp) ?_
  refine AllReadyH.cons (o := _) rfl (fun K0 hK0 => ?_) AllReadyH.nil
  go_simp
  refine (CF2.out _ (by go_split_ands; assumption)).mono ?_
  rintro e9 v3 ⟨rfl, hv3⟩
  go_wp2_with fail
  skip
  refine hK0.out _ _ (KH.out _ hv3) (fun hHeld => ?_)
  clear hK0 K0
  try simp only [Act.put, zz1, zz2, zz3, zz4, zz5, zz6]
  refine tkH 18 ?_ rfl ?_ hHeld ?_; rotate_left; (intro w hSw; (try dsimp only at hSw); go_simp; try with_reducible rfl); try simp only [Act.put, zz1, zz2, zz3, zz4, zz5, zz6]
  refine tkH 19 ?_ rfl ?_ hHeld ?_; rotate_left; (intro w hSw; (try dsimp only at hSw); go_simp; try with_reducible rfl); try simp only [Act.put, zz1, zz2, zz3, zz4, zz5, zz6]
  refine tkH 20 ?_ rfl ?_ hHeld ?_; rotate_left; (intro w hSw; (try dsimp only at hSw); go_simp; try with_reducible rfl); try simp only [Act.put, zz1, zz2, zz3, zz4, zz5, zz6]
  refine tkH 21 ?_ rfl ?_ hHeld ?_; rotate_left; (intro w hSw; (try dsimp only at hSw); go_simp; try with_reducible rfl); try simp only [Act.put, zz1, zz2, zz3, zz4, zz5, zz6]
  refine tkH 23 ?_ rfl ?_ hHeld ?_; rotate_left; (intro w hSw; (try dsimp only at hSw); go_simp; try with_reducible rfl); try simp only [Act.put, zz1, zz2, zz3, zz4, zz5, zz6]
  refine wpAnyH_ready (rs := [22]) (by kernel_rfl) (by simp) ?_
  refine AllReadyH.cons (o := _) rfl (fun K0 hK0 => ?_) AllReadyH.nil
  go_simp
  refine (EF1.out _ (by go_split_ands; assumption)).mono ?_
  rintro e9 v4 ⟨rfl, hv4⟩
  go_wp2_with fail
  skip
  refine hK0.out _ _ (KH.out _ hv4) (fun hHeld => ?_)
  clear hK0 K0
  try simp only [Act.put, zz1, zz2, zz3, zz4, zz5, zz6]
  refine wpAnyH_ready (rs := [24]) (by kernel_rfl) (by simp) ?_
  refine AllReadyH.cons (o := _) rfl (fun K0 hK0 => ?_) AllReadyH.nil
  go_simp
  refine (EF2.out _ (by go_split_ands; assumption)).mono ?_
  rintro e9 v5 ⟨rfl, hv5⟩
  go_wp2_with fail
  skip
  refine hK0.out _ _ (KH.out _ hv5) (fun hHeld => ?_)
  clear hK0 K0
  try simp only [Act.put, zz1, zz2, zz3, zz4, zz5, zz6]
  refine tkH 25 ?_ rfl ?_ hHeld ?_; rotate_left; (intro w hSw; (try dsimp only at hSw); go_simp; try with_reducible rfl); try simp only [Act.put, zz1, zz2, zz3, zz4, zz5, zz6]
  refine tkH 26 ?_ rfl ?_ hHeld ?_; rotate_left; (intro w hSw; (try dsimp only at hSw); go_simp; try with_reducible rfl); try simp only [Act.put, zz1, zz2, zz3, zz4, zz5, zz6]
  refine tkH 27 ?_ rfl ?_ hHeld ?_; rotate_left; (intro w hSw; (try dsimp only at hSw); go_simp; try with_reducible rfl); try simp only [Act.put, zz1, zz2, zz3, zz4, zz5, zz6]
  refine tkH 28 ?_ rfl ?_ hHeld ?_; rotate_left; (intro w hSw; (try dsimp only at hSw); go_simp; try with_reducible rfl); try simp only [Act.put, zz1, zz2, zz3, zz4, zz5, zz6]
  refine tkH 29 ?_ rfl ?_ hHeld ?_; rotate_left; (intro w hSw; (try dsimp only at hSw); go_simp; try with_reducible rfl); try simp only [Act.put, zz1, zz2, zz3, zz4, zz5, zz6]
  refine tkH 30 ?_ rfl ?_ hHeld ?_; rotate_left; (intro w hSw; (try dsimp only at hSw); go_simp; try with_reducible rfl); try simp only [Act.put, zz1, zz2, zz3, zz4, zz5, zz6]
  refine wpAnyH_ready (rs := [31]) (by kernel_rfl) (by simp) ?_
  refine AllReadyH.cons (o := _) rfl (fun K0 hK0 => ?_) AllReadyH.nil
  go_simp
  refine (NK.out _ (by go_split_ands; assumption)).mono ?_
  rintro e9 v6 ⟨py, rfl, hv6⟩
  go_wp2_with fail
  skip
  refine hK0.out _ _ (KH.out _ hv6) (fun hHeld => ?_)
  clear hK0 K0
  try simp only [Act.put, zz1, zz2, zz3, zz4, zz5, zz6]
  refine tkH 32 ?_ rfl ?_ hHeld ?_; rotate_left; (intro w hSw; (try dsimp only at hSw); go_simp; try with_reducible rfl); try simp only [Act.put, zz1, zz2, zz3, zz4, zz5, zz6]
  refine tkH 33 ?_ rfl ?_ hHeld ?_; rotate_left; (intro w hSw; (try dsimp only at hSw); go_simp; try with_reducible rfl); try simp only [Act.put, zz1, zz2, zz3, zz4, zz5, zz6]
  refine tkH 34 ?_ rfl ?_ hHeld ?_; rotate_left; (intro w hSw; (try dsimp only at hSw); go_simp; try with_reducible rfl); try simp only [Act.put, zz1, zz2, zz3, zz4, zz5, zz6]
  refine tkH 35 ?_ rfl ?_ hHeld ?_; rotate_left; (intro w hSw; (try dsimp only at hSw); go_simp; try with_reducible rfl); try simp only [Act.put, zz1, zz2, zz3, zz4, zz5, zz6]
  refine tkH 36 ?_ rfl ?_ hHeld ?_; rotate_left; (intro w hSw; (try dsimp only at hSw); go_simp; try with_reducible rfl); try simp only [Act.put, zz1, zz2, zz3, zz4, zz5, zz6]
  refine tkH 37 ?_ rfl ?_ hHeld ?_; rotate_left; (intro w hSw; (try dsimp only at hSw); go_simp; try with_reducible rfl); try simp only [Act.put, zz1, zz2, zz3, zz4, zz5, zz6]
  refine tkH 39 ?_ rfl ?_ hHeld ?_; rotate_left; (intro w hSw; (try dsimp only at hSw); go_simp; try with_reducible rfl); try simp only [Act.put, zz1, zz2, zz3, zz4, zz5, zz6]
  refine tkH 40 ?_ rfl ?_ hHeld ?_; rotate_left; (intro w hSw; (try dsimp only at hSw); go_simp; try with_reducible rfl); try simp only [Act.put, zz1, zz2, zz3, zz4, zz5, zz6]
  refine wpAnyH_ready (rs := [38]) (by kernel_rfl) (by simp) ?_
  refine AllReadyH.cons (o := _) rfl (fun K0 hK0 => ?_) AllReadyH.nil
  go_simp
  refine (SK2.out _ (by go_split_ands; assumption)).mono ?_
  rintro e9 v7 ⟨rfl, hv7⟩
  go_wp2_with fail
  skip
  refine hK0.out _ _ (KH.out _ hv7) (fun hHeld => ?_)
  clear hK0 K0
  try simp only [Act.put, zz1, zz2, zz3, zz4, zz5, zz6]
  refine wpAnyH_ready (rs := [41]) (by kernel_rfl) (by simp) ?_
  refine AllReadyH.cons (o := _) rfl (fun K0 hK0 => ?_) AllReadyH.nil
  go_simp
  refine (SK3.out _ (by go_split_ands; assumption)).mono ?_
  rintro e9 v8 ⟨rfl, hv8⟩
  go_wp2_with fail
  skip
  refine hK0.out _ _ (KH.out _ hv8) (fun hHeld => ?_)
  clear hK0 K0
  try simp only [Act.put, zz1, zz2, zz3, zz4, zz5, zz6]
  refine tkH 42 ?_ rfl ?_ hHeld ?_; rotate_left; (intro w hSw; (try dsimp only at hSw); go_simp; try with_reducible rfl); try simp only [Act.put, zz1, zz2, zz3, zz4, zz5, zz6]
  refine tkH 43 ?_ rfl ?_ hHeld ?_; rotate_left; (intro w hSw; (try dsimp only at hSw); go_simp; try with_reducible rfl); try simp only [Act.put, zz1, zz2, zz3, zz4, zz5, zz6]
  refine tkH 44 ?_ rfl ?_ hHeld ?_; rotate_left; (intro w hSw; (try dsimp only at hSw); go_simp; try with_reducible rfl); try simp only [Act.put, zz1, zz2, zz3, zz4, zz5, zz6]
  refine tkH 45 ?_ rfl ?_ hHeld ?_; rotate_left; (intro w hSw; (try dsimp only at hSw); go_simp; try with_reducible rfl); try simp only [Act.put, zz1, zz2, zz3, zz4, zz5, zz6]
  refine tkH 47 ?_ rfl ?_ hHeld ?_; rotate_left; (intro w hSw; (try dsimp only at hSw); go_simp; try with_reducible rfl); try simp only [Act.put, zz1, zz2, zz3, zz4, zz5, zz6]
  refine wpAnyH_ready (rs := [46]) (by kernel_rfl) (by simp) ?_
  refine AllReadyH.cons (o := _) rfl (fun K0 hK0 => ?_) AllReadyH.nil
  go_simp
  refine (KF1.out _ (by go_split_ands; assumption)).mono ?_
  rintro e9 v9 ⟨rfl, hv9⟩
  go_wp2_with fail
  skip
  refine hK0.out _ _ (KH.out _ hv9) (fun hHeld => ?_)
  clear hK0 K0
  try simp only [Act.put, zz1, zz2, zz3, zz4, zz5, zz6]
  refine wpAnyH_ready (rs := [48]) (by kernel_rfl) (by simp) ?_
  refine AllReadyH.cons (o := _) rfl (fun K0 hK0 => ?_) AllReadyH.nil
  go_simp
  refine (KF2.out _ (by go_split_ands; assumption)).mono ?_
  rintro e9 vA ⟨rfl, hvA⟩
  go_wp2_with fail
  skip
  refine hK0.out _ _ (KH.out _ hvA) (fun hHeld => ?_)
  clear hK0 K0
  try simp only [Act.put, zz1, zz2, zz3, zz4, zz5, zz6]
  refine tkH 49 ?_ rfl ?_ hHeld ?_; rotate_left; (intro w hSw; (try dsimp only at hSw); go_simp; try with_reducible rfl); try simp only [Act.put, zz1, zz2, zz3, zz4, zz5, zz6]
  refine tkH 50 ?_ rfl ?_ hHeld ?_; rotate_left; (intro w hSw; (try dsimp only at hSw); go_simp; try with_reducible rfl); try simp only [Act.put, zz1, zz2, zz3, zz4, zz5, zz6]
  refine wpAnyH_done (by kernel_rfl) ?_ _
  clear hHeld
  have BA := Lib.hid hvA
  clear hv1 hv2 hv3 hv4 hv5 hv6 hv7 hv8 hv9 hvA BL0 SK1 CF1 CF2 EF1 EF2 NK SK2 SK3 KF1 KF2 KH hq y1 y2 y3 y4 y5
  obtain ⟨⟨kc0, kc1, kc2, kc3, kc4⟩, ⟨ac0, ac1, ac2, ac3⟩, ⟨rc0, rc1, rc2, rc3, rc4, rc5, rc6⟩, ⟨sc0, sc1, sc2, sc3, sc4, sc5, sc6⟩, ⟨gc0, gc1, gc2, gc3⟩, ⟨hc0, hc1, hc2, hc3, hc4, hc5, hc6⟩, ⟨xc0, xc1, xc2, xc3, xc4, xc5, xc6⟩, ⟨pc0, pc1, pc2, pc3, pc4⟩, ⟨tc0, tc1, tc2, tc3, tc4⟩, kd, o1', o2', ox, kS, kT, bw⟩ := F.out vA BA.out
  by_cases hx0 : xq = 0
  case neg =>
    have z1 : (xq == 0) = false := by simp [hx0]
    by_cases h0 : q = 0
    case neg =>
      have y : (q != 0) = true := by simp [h0]
      have n0 : p1.n1 = 0 := by have e := docall_bad DK.out h0; have l := o1'.l1; rw [e] at l; exact l.symm
      have BW := Lib.hid bw
      rw [n0] at rc1
      clear kd o1' o2' ox kS kT bw n0
      go_wp2
      go_ret
      exact ⟨rfl, BW.out⟩
    subst h0
    have y : ((0 : Int) != 0) = false := by simp
    have GD := Lib.hid (docall_good DK.out)
    have KF := Lib.hid (implKernelFault_any _ _ p1.A1 p1.n1 p1.c1 p1.A2 p1.n2 p1.c2 p1.A3 p1.n3 p1.c3 L.tick L.run L vA (by have := PB.out; omega) o1'.read rfl rfl)
    rw [GD.out.2.1] at KF
    clear kd o1' o2' ox kS kT bw
    go_wp2_with fail
    refine KF.out.mono ?_
    rintro e vC ⟨rfl, hb⟩
    have BC := Lib.hid (BA.out.trans (hb.mono BA.out.size))
    clear hb KF kc0 kc1 kc2 kc3 kc4 ac0 ac1 ac2 ac3 rc0 rc1 rc2 rc3 rc4 rc5 rc6 sc0 sc1 sc2 sc3 sc4 sc5 sc6 gc0 gc1 gc2 gc3 hc0 hc1 hc2 hc3 hc4 hc5 hc6 xc0 xc1 xc2 xc3 xc4 xc5 xc6 pc0 pc1 pc2 pc3 pc4 tc0 tc1 tc2 tc3 tc4
    obtain ⟨⟨kc0, kc1, kc2, kc3, kc4⟩, ⟨ac0, ac1, ac2, ac3⟩, ⟨rc0, rc1, rc2, rc3, rc4, rc5, rc6⟩, ⟨sc0, sc1, sc2, sc3, sc4, sc5, sc6⟩, ⟨gc0, gc1, gc2, gc3⟩, ⟨hc0, hc1, hc2, hc3, hc4, hc5, hc6⟩, ⟨xc0, xc1, xc2, xc3, xc4, xc5, xc6⟩, ⟨pc0, pc1, pc2, pc3, pc4⟩, ⟨tc0, tc1, tc2, tc3, tc4⟩, kd, o1', o2', ox, kS, kT, bw⟩ := F.out vC BC.out
    have et : (L.tick != K.tick) = false := by rw [GD.out.2.2.1]; simp
    have N3 : Hid (n3 = 4 ∧ p1.n3 = 4) := by
      have a := kd.1.2.2
      have b := o1'.l3
      have c := GD.out
      show _ ∧ _
      omega
    rw [PB.out.2.1] at rc6
    clear kd o1' o2' ox kS kT bw
    go_wp2_with fail
    go_loopw [13] (fun x wr => ∃ i : Nat, i ≤ 4 ∧ x = .int .i64 (i : Int) ∧ Below wg.heap.size wg wr) (fun x _ => 4 - (intOf x).toNat)
    case atStart => exact ⟨0, by omega, rfl, BC.out⟩
    case round =>
      obtain ⟨i, hi, rfl, hb⟩ := hrel
      have BR := Lib.hid hb
      clear hb kc0 kc1 kc2 kc3 kc4 ac0 ac1 ac2 ac3 rc0 rc1 rc2 rc3 rc4 rc5 rc6 sc0 sc1 sc2 sc3 sc4 sc5 sc6 gc0 gc1 gc2 gc3 hc0 hc1 hc2 hc3 hc4 hc5 hc6 xc0 xc1 xc2 xc3 xc4 xc5 xc6 pc0 pc1 pc2 pc3 pc4 tc0 tc1 tc2 tc3 tc4 et
      obtain ⟨⟨kc0, kc1, kc2, kc3, kc4⟩, ⟨ac0, ac1, ac2, ac3⟩, ⟨rc0, rc1, rc2, rc3, rc4, rc5, rc6⟩, ⟨sc0, sc1, sc2, sc3, sc4, sc5, sc6⟩, ⟨gc0, gc1, gc2, gc3⟩, ⟨hc0, hc1, hc2, hc3, hc4, hc5, hc6⟩, ⟨xc0, xc1, xc2, xc3, xc4, xc5, xc6⟩, ⟨pc0, pc1, pc2, pc3, pc4⟩, ⟨tc0, tc1, tc2, tc3, tc4⟩, kd, o1', o2', ox, kS, kT, bw⟩ := F.out wr BR.out
      have BW := Lib.hid bw
      clear bw ox kS kT o2'
      by_cases hlt : i < 4
      · have hl1 : (i : Int) < 4 := by omega
        have hl0 : (0 : Int) ≤ (i : Int) := by omega
        have k3 := kd.2.2.2
        have m3 := o1'.m3.sl
        rw [N3.out.1] at k3 kc2
        rw [N3.out.2] at m3 rc3
        obtain ⟨ga, oa, hA, _, _, hc⟩ := k3.at_ (show i * 4 < 4 * 4 by omega)
        obtain ⟨gb_, ob, hB, _, _, hc'⟩ := m3.at_ (show i * 4 < 4 * 4 by omega)
        rw [hA] at kc2
        rw [hB] at rc3
        have TT : (i : Int) ≠ x1 → (gi L.ac (i * 4 + 0) = gi K.ac (i * 4 + 0) ∧ gi L.ac (i * 4 + 1) = gi K.ac (i * 4 + 1) ∧ gi L.ac (i * 4 + 2) = gi K.ac (i * 4 + 2) ∧ gi L.ac (i * 4 + 3) = gi K.ac (i * 4 + 3)) := fun a => ⟨GD.out.2.2.2.2.2 i a 0 (by omega), GD.out.2.2.2.2.2 i a 1 (by omega), GD.out.2.2.2.2.2 i a 2 (by omega), GD.out.2.2.2.2.2 i a 3 (by omega)⟩
        have g0_ : wr.cell? ⟨ga, oa + i * 4, none⟩ = some (.int .i64 (gi K.ac (i * 4 + 0))) := hc (i * 4 + 0) (by omega)
        have g1_ : wr.cell? ⟨ga, oa + i * 4 + 1, none⟩ = some (.int .i64 (gi K.ac (i * 4 + 1))) := hc (i * 4 + 1) (by omega)
        have g2_ : wr.cell? ⟨ga, oa + i * 4 + 2, none⟩ = some (.int .i64 (gi K.ac (i * 4 + 2))) := hc (i * 4 + 2) (by omega)
        have g3_ : wr.cell? ⟨ga, oa + i * 4 + 3, none⟩ = some (.int .i64 (gi K.ac (i * 4 + 3))) := hc (i * 4 + 3) (by omega)
        have l0_ : wr.cell? ⟨gb_, ob + i * 4, none⟩ = some (.int .i64 (gi L.ac (i * 4 + 0))) := hc' (i * 4 + 0) (by omega)
        have l1_ : wr.cell? ⟨gb_, ob + i * 4 + 1, none⟩ = some (.int .i64 (gi L.ac (i * 4 + 1))) := hc' (i * 4 + 1) (by omega)
        have l2_ : wr.cell? ⟨gb_, ob + i * 4 + 2, none⟩ = some (.int .i64 (gi L.ac (i * 4 + 2))) := hc' (i * 4 + 2) (by omega)
        have l3_ : wr.cell? ⟨gb_, ob + i * 4 + 3, none⟩ = some (.int .i64 (gi L.ac (i * 4 + 3))) := hc' (i * 4 + 3) (by omega)
        clear hc hc' kd o1' hA hB k3 m3
        generalize gi L.ac (i * 4 + 0) = y0 at *
        generalize gi K.ac (i * 4 + 0) = z0 at *
        generalize gi L.ac (i * 4 + 1) = y1 at *
        generalize gi K.ac (i * 4 + 1) = z1 at *
        generalize gi L.ac (i * 4 + 2) = y2 at *
        generalize gi K.ac (i * 4 + 2) = z2 at *
        generalize gi L.ac (i * 4 + 3) = y3 at *
        generalize gi K.ac (i * 4 + 3) = z3 at *
        rcases Classical.em ((i : Int) = x1) with hne | hne
        · have d1 : ((i : Int) != x1) = false := by simp [hne]
          clear hne TT
          go_wp2_with fail
          go_quiet (fail)
          go_wp2
          go_roundw
          case rel => exact ⟨i + 1, by omega, by go_num, below_drewN BR.out _⟩
          case measure => simp [intOf]; omega
        · have d1 : ((i : Int) != x1) = true := by simp [hne]
          obtain ⟨rfl, rfl, rfl, rfl⟩ := TT hne
          clear TT hne
          go_wp2_with fail
          go_quiet (fail)
          go_wp2
          go_roundw
          case rel => exact ⟨i + 1, by omega, by go_num, below_drewN BR.out _⟩
          case measure => simp [intOf]; omega
      · have hjn : ¬ ((i : Int) < 4) := by omega
        clear kd o1'
        go_wp2
        go_ret
        exact ⟨rfl, BW.out⟩
  subst hx0
  have z1 : ((0 : Int) == 0) = true := by simp
  have GX := Lib.hid ((nk_good NKX.out).2 rfl)
  have KX := Lib.hid (implKernelFault_any _ _ px.A1 px.n1 px.c1 px.A2 px.n2 px.c2 px.A3 px.n3 px.c3 X.tick X.run X vA (by have := PB.out; omega) ox.read rfl rfl)
  rw [GX.out.1] at KX
  clear kd o1' o2' ox kS kT bw
  go_wp2_with fail
  refine KX.out.mono ?_
  rintro e vB ⟨rfl, hb⟩
  have BB := Lib.hid (BA.out.trans (hb.mono BA.out.size))
  clear hb KX kc0 kc1 kc2 kc3 kc4 ac0 ac1 ac2 ac3 rc0 rc1 rc2 rc3 rc4 rc5 rc6 sc0 sc1 sc2 sc3 sc4 sc5 sc6 gc0 gc1 gc2 gc3 hc0 hc1 hc2 hc3 hc4 hc5 hc6 xc0 xc1 xc2 xc3 xc4 xc5 xc6 pc0 pc1 pc2 pc3 pc4 tc0 tc1 tc2 tc3 tc4
  obtain ⟨⟨kc0, kc1, kc2, kc3, kc4⟩, ⟨ac0, ac1, ac2, ac3⟩, ⟨rc0, rc1, rc2, rc3, rc4, rc5, rc6⟩, ⟨sc0, sc1, sc2, sc3, sc4, sc5, sc6⟩, ⟨gc0, gc1, gc2, gc3⟩, ⟨hc0, hc1, hc2, hc3, hc4, hc5, hc6⟩, ⟨xc0, xc1, xc2, xc3, xc4, xc5, xc6⟩, ⟨pc0, pc1, pc2, pc3, pc4⟩, ⟨tc0, tc1, tc2, tc3, tc4⟩, kd, o1', o2', ox, kS, kT, bw⟩ := F.out vB BB.out
  have z2 : ((px.n1 : Int) != m) = false := by have a := ox.l1; have b := GX.out.2; rw [a] at b; simp [b]
  by_cases h0 : q = 0
  case neg =>
    have y : (q != 0) = true := by simp [h0]
    have n0 : p1.n1 = 0 := by have e := docall_bad DK.out h0; have l := o1'.l1; rw [e] at l; exact l.symm
    have BW := Lib.hid bw
    rw [n0] at rc1
    clear kd o1' o2' ox kS kT bw n0
    go_wp2
    go_ret
    exact ⟨rfl, BW.out⟩
  subst h0
  have y : ((0 : Int) != 0) = false := by simp
  have GD := Lib.hid (docall_good DK.out)
  have KF := Lib.hid (implKernelFault_any _ _ p1.A1 p1.n1 p1.c1 p1.A2 p1.n2 p1.c2 p1.A3 p1.n3 p1.c3 L.tick L.run L vB (by have := PB.out; omega) o1'.read rfl rfl)
  rw [GD.out.2.1] at KF
  clear kd o1' o2' ox kS kT bw
  go_wp2_with fail
  refine KF.out.mono ?_
  rintro e vC ⟨rfl, hb⟩
  have BC := Lib.hid (BB.out.trans (hb.mono BB.out.size))
  clear hb KF kc0 kc1 kc2 kc3 kc4 ac0 ac1 ac2 ac3 rc0 rc1 rc2 rc3 rc4 rc5 rc6 sc0 sc1 sc2 sc3 sc4 sc5 sc6 gc0 gc1 gc2 gc3 hc0 hc1 hc2 hc3 hc4 hc5 hc6 xc0 xc1 xc2 xc3 xc4 xc5 xc6 pc0 pc1 pc2 pc3 pc4 tc0 tc1 tc2 tc3 tc4
  obtain ⟨⟨kc0, kc1, kc2, kc3, kc4⟩, ⟨ac0, ac1, ac2, ac3⟩, ⟨rc0, rc1, rc2, rc3, rc4, rc5, rc6⟩, ⟨sc0, sc1, sc2, sc3, sc4, sc5, sc6⟩, ⟨gc0, gc1, gc2, gc3⟩, ⟨hc0, hc1, hc2, hc3, hc4, hc5, hc6⟩, ⟨xc0, xc1, xc2, xc3, xc4, xc5, xc6⟩, ⟨pc0, pc1, pc2, pc3, pc4⟩, ⟨tc0, tc1, tc2, tc3, tc4⟩, kd, o1', o2', ox, kS, kT, bw⟩ := F.out vC BC.out
  have et : (L.tick != K.tick) = false := by rw [GD.out.2.2.1]; simp
  have N3 : Hid (n3 = 4 ∧ p1.n3 = 4) := by
    have a := kd.1.2.2
    have b := o1'.l3
    have c := GD.out
    show _ ∧ _
    omega
  rw [PB.out.2.1] at rc6
  clear kd o1' o2' ox kS kT bw
  go_wp2_with fail
  go_loopw [13] (fun x wr => ∃ i : Nat, i ≤ 4 ∧ x = .int .i64 (i : Int) ∧ Below wg.heap.size wg wr) (fun x _ => 4 - (intOf x).toNat)
  case atStart => exact ⟨0, by omega, rfl, BC.out⟩
  case round =>
    obtain ⟨i, hi, rfl, hb⟩ := hrel
    have BR := Lib.hid hb
    clear hb kc0 kc1 kc2 kc3 kc4 ac0 ac1 ac2 ac3 rc0 rc1 rc2 rc3 rc4 rc5 rc6 sc0 sc1 sc2 sc3 sc4 sc5 sc6 gc0 gc1 gc2 gc3 hc0 hc1 hc2 hc3 hc4 hc5 hc6 xc0 xc1 xc2 xc3 xc4 xc5 xc6 pc0 pc1 pc2 pc3 pc4 tc0 tc1 tc2 tc3 tc4 et
    obtain ⟨⟨kc0, kc1, kc2, kc3, kc4⟩, ⟨ac0, ac1, ac2, ac3⟩, ⟨rc0, rc1, rc2, rc3, rc4, rc5, rc6⟩, ⟨sc0, sc1, sc2, sc3, sc4, sc5, sc6⟩, ⟨gc0, gc1, gc2, gc3⟩, ⟨hc0, hc1, hc2, hc3, hc4, hc5, hc6⟩, ⟨xc0, xc1, xc2, xc3, xc4, xc5, xc6⟩, ⟨pc0, pc1, pc2, pc3, pc4⟩, ⟨tc0, tc1, tc2, tc3, tc4⟩, kd, o1', o2', ox, kS, kT, bw⟩ := F.out wr BR.out
    have BW := Lib.hid bw
    clear bw ox kS kT o2'
    by_cases hlt : i < 4
    · have hl1 : (i : Int) < 4 := by omega
      have hl0 : (0 : Int) ≤ (i : Int) := by omega
      have k3 := kd.2.2.2
      have m3 := o1'.m3.sl
      rw [N3.out.1] at k3 kc2
      rw [N3.out.2] at m3 rc3
      obtain ⟨ga, oa, hA, _, _, hc⟩ := k3.at_ (show i * 4 < 4 * 4 by omega)
      obtain ⟨gb_, ob, hB, _, _, hc'⟩ := m3.at_ (show i * 4 < 4 * 4 by omega)
      rw [hA] at kc2
      rw [hB] at rc3
      have TT : (i : Int) ≠ x1 → (gi L.ac (i * 4 + 0) = gi K.ac (i * 4 + 0) ∧ gi L.ac (i * 4 + 1) = gi K.ac (i * 4 + 1) ∧ gi L.ac (i * 4 + 2) = gi K.ac (i * 4 + 2) ∧ gi L.ac (i * 4 + 3) = gi K.ac (i * 4 + 3)) := fun a => ⟨GD.out.2.2.2.2.2 i a 0 (by omega), GD.out.2.2.2.2.2 i a 1 (by omega), GD.out.2.2.2.2.2 i a 2 (by omega), GD.out.2.2.2.2.2 i a 3 (by omega)⟩
      have g0_ : wr.cell? ⟨ga, oa + i * 4, none⟩ = some (.int .i64 (gi K.ac (i * 4 + 0))) := hc (i * 4 + 0) (by omega)
      have g1_ : wr.cell? ⟨ga, oa + i * 4 + 1, none⟩ = some (.int .i64 (gi K.ac (i * 4 + 1))) := hc (i * 4 + 1) (by omega)
      have g2_ : wr.cell? ⟨ga, oa + i * 4 + 2, none⟩ = some (.int .i64 (gi K.ac (i * 4 + 2))) := hc (i * 4 + 2) (by omega)
      have g3_ : wr.cell? ⟨ga, oa + i * 4 + 3, none⟩ = some (.int .i64 (gi K.ac (i * 4 + 3))) := hc (i * 4 + 3) (by omega)
      have l0_ : wr.cell? ⟨gb_, ob + i * 4, none⟩ = some (.int .i64 (gi L.ac (i * 4 + 0))) := hc' (i * 4 + 0) (by omega)
      have l1_ : wr.cell? ⟨gb_, ob + i * 4 + 1, none⟩ = some (.int .i64 (gi L.ac (i * 4 + 1))) := hc' (i * 4 + 1) (by omega)
      have l2_ : wr.cell? ⟨gb_, ob + i * 4 + 2, none⟩ = some (.int .i64 (gi L.ac (i * 4 + 2))) := hc' (i * 4 + 2) (by omega)
      have l3_ : wr.cell? ⟨gb_, ob + i * 4 + 3, none⟩ = some (.int .i64 (gi L.ac (i * 4 + 3))) := hc' (i * 4 + 3) (by omega)
      clear hc hc' kd o1' hA hB k3 m3
      generalize gi L.ac (i * 4 + 0) = y0 at *
      generalize gi K.ac (i * 4 + 0) = z0 at *
      generalize gi L.ac (i * 4 + 1) = y1 at *
      generalize gi K.ac (i * 4 + 1) = z1 at *
      generalize gi L.ac (i * 4 + 2) = y2 at *
      generalize gi K.ac (i * 4 + 2) = z2 at *
      generalize gi L.ac (i * 4 + 3) = y3 at *
      generalize gi K.ac (i * 4 + 3) = z3 at *
      rcases Classical.em ((i : Int) = x1) with hne | hne
      · have d1 : ((i : Int) != x1) = false := by simp [hne]
        clear hne TT
        go_wp2_with fail
        go_quiet (fail)
        go_wp2
        go_roundw
        case rel => exact ⟨i + 1, by omega, by go_num, below_drewN BR.out _⟩
        case measure => simp [intOf]; omega
      · have d1 : ((i : Int) != x1) = true := by simp [hne]
        obtain ⟨rfl, rfl, rfl, rfl⟩ := TT hne
        clear TT hne
        go_wp2_with fail
        go_quiet (fail)
        go_wp2
        go_roundw
        case rel => exact ⟨i + 1, by omega, by go_num, below_drewN BR.out _⟩
        case measure => simp [intOf]; omega
    · have hjn : ¬ ((i : Int) < 4) := by omega
      clear kd o1'
      go_wp2
      go_ret
      exact ⟨rfl, BW.out⟩

end Go.Proofs.YtckapndpefkcgaaGreat
