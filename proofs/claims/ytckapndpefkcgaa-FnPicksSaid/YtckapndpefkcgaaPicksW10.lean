/-
  The walk of FnPicks.
-/
import Derived.Test.YtckapndpefkcgaaSchedsW
import Derived.Test.YtckapndpefkcgaaLw3
import Derived.Test.YtckapndpefkcgaaMath5e
import Derived.Test.YtckapndpefkcgaaSpec5h
import Derived.Test.YtckapndpefkcgaaImpl5h
import Derived.Test.YtckapndpefkcgaaImpl5i
import Derived.Test.YtckapndpefkcgaaImpl5f
set_option maxHeartbeats 1000000
namespace Go.Proofs.Ytckapndpefkcgaa
open Go.RowKit
set_option maxRecDepth 100000

theorem run_pr0 (q b : Int) (A B : Option Addr) (k c n d : Nat) (W : World) : (Instr.field 48 (.agg #[.int .i64 q, .slice A k c, .int .i64 b, .slice B n d]) 0).run Try.prog W = .ok (.int .i64 q) W := by kernel_rfl
theorem run_pr1 (q b : Int) (A B : Option Addr) (k c n d : Nat) (W : World) : (Instr.field 48 (.agg #[.int .i64 q, .slice A k c, .int .i64 b, .slice B n d]) 1).run Try.prog W = .ok (.slice A k c) W := by kernel_rfl
theorem pick_good {b : Int} {xs : List R3} {q i r nb : Int} {ys : List R3} (h : pick5 b xs = (q, i, r, nb, ys)) (h0 : q = 0) : sf5 nb ys = 0 ∧ b ≤ nb ∧ ys.length = xs.length := by
  subst h0
  have hs : sf5 b xs = 0 := by
    have := congrArg Prod.fst h
    unfold pick5 at this
    by_cases e : sf5 b xs = 0
    · exact e
    · rw [if_pos e] at this; exact absurd this e
  rw [pick5_eq hs] at h
  by_cases hp : pq5 b xs = 0
  · rw [if_pos hp] at h
    simp only [Prod.mk.injEq] at h
    obtain ⟨_, _, _, rfl, rfl⟩ := h
    have hne : xs ≠ [] := fun e => by unfold pq5 at hp; rw [if_pos e] at hp; exact absurd hp (by decide)
    exact ⟨pick_next hs hp, ((In5.of hs).pk hne).2.1, ny5_len xs⟩
  · rw [if_neg hp] at h
    exact absurd (congrArg Prod.fst h) hp
theorem pks5_bad (n : Nat) : ∀ (is : List Int) (b : Int) (xs : List R3), (pks5 n is b xs).1 ≠ 0 → (pks5 n is b xs).2.1 = [] := by
  induction n with
  | zero => intro is b xs h; exact absurd rfl h
  | succ n ih =>
    intro is b xs h
    unfold pks5 at h ⊢
    by_cases e : pq5 b xs = 0
    · rw [if_pos e] at h ⊢; exact ih _ _ _ h
    · rw [if_neg e]; rfl
theorem picks5_bad {b : Int} {xs : List R3} {n : Int} (h : (picks5 b xs n).1 ≠ 0) : (picks5 b xs n).2.1 = [] := by
  unfold picks5 at h ⊢
  by_cases e : sf5 b xs = 0
  · rw [if_neg (fun q => q e)] at h ⊢
    by_cases e2 : n < 0 ∨ 200 < n
    · rw [if_pos e2]; rfl
    · rw [if_neg e2] at h ⊢; exact pks5_bad _ _ _ _ h
  · rw [if_pos e]; rfl
theorem picks5_in {b : Int} {xs : List R3} {n : Int} (h : (picks5 b xs n).1 = 0) : sf5 b xs = 0 ∧ 0 ≤ n ∧ n ≤ 200 := by
  unfold picks5 at h
  by_cases e : sf5 b xs = 0
  · rw [if_neg (fun q => q e)] at h
    by_cases e2 : n < 0 ∨ 200 < n
    · rw [if_pos e2] at h; exact absurd h (by decide)
    · exact ⟨e, by omega, by omega⟩
  · rw [if_pos e] at h; exact absurd h e
theorem info_int64P : (Try.prog.info? 2).map (fun i => (i.zero, i.size, i.bytes)) = some (some (.int .i64 0), 1, 8) := by kernel_rfl
/-- numbers are appended, wherever they lie -/
theorem wp_append_nums {P : Program} {o : Oper} {a : Act} {w : World} {K : Act → World → Prop} {Q : Exit → Act → World → Prop} (s x : Operand) (t : TypeId)
    (ho : o.op = .call { callee := .builtin .append, args := #[s, x], argTypes := #[t, t] })
    (base : Nat) (e : TypeId) (i : TypeInfo) (ht : P.underlying t = some (.slice e)) (hi : P.info? e = some i) (hz : i.zero = some (.int .i64 0)) (hsize : i.size = 1) (hby : i.bytes = 8)
    (v : Value) (n : Nat) (xs : List Int) (hs : a.eval s = v) (hown : w.ownsRow base e 1 v n (vals xs)) (lo hi' : Nat) (B : Option Addr) (m c : Nat) (ys : List Int) (hx : a.eval x = .slice B m c) (hl : ys.length = m)
    (hsl : Sl w lo hi' B m (fun j => .int .i64 (gi ys j))) (hn : n + m ≤ 10000) (hbase : base ≤ w.heap.size)
    (h : ∀ v' w', w'.ownsRow base e 1 v' (n + m) (vals (xs ++ ys)) → w.grownBy w' v.ownBlock → K (a.put o.dst v') w') : o.wp P a w K Q := by
  rcases B with _ | ad
  · have hm : m = 0 := by
      rcases Nat.eq_zero_or_pos m with e | e
      · exact e
      · obtain ⟨_, _, e2, _⟩ := hsl 0 (by omega)
        cases e2
    subst hm
    obtain rfl : ys = [] := List.length_eq_zero_iff.1 hl
    have hr : (Builtin.append_ #[t, t] o.type #[v, .slice none 0 c]).run P w = .ok v w := by
      rcases hown.2 with ⟨rfl, rfl⟩ | ⟨g, cap, cur, rfl, _, _, hnc, _⟩
      · simp [Builtin.append_, run_underlying ht, sizeOf, typeInfo, hi, Builtin.lenOf, Builtin.firstCells]
      · simp [Builtin.append_, run_underlying ht, sizeOf, typeInfo, hi, Builtin.lenOf, Builtin.firstCells, hnc, storeCells]
    unfold Oper.wp execOp
    simp only [ho, resolve, invoke, builtin, Sem.run_bind, Sem.run_pure, Result.andThen_ok, List.map_toArray, List.map_cons, List.map_nil, hs, hx, hr]
    exact (h v w (by rw [List.append_nil]; exact hown) (World.grownBy.refl _ _))
  · have hnews : ∀ j u, (vals ys)[j]? = some u → w.cell? (ad.add j) = some u := fun j u hu => by
      have hj : j < ys.length := by have := (List.getElem?_eq_some_iff.1 hu).1; simpa [vals] using this
      rw [vals_get ys j hj] at hu
      injection hu with hu
      subst hu
      obtain ⟨bb, off, hx2, _, _, hc⟩ := hsl j (by omega)
      injection hx2 with hx2
      subst hx2
      rw [Go.WideShapes.add_plain]
      exact hc
    have h1 : ∀ u ∈ vals ys, u.oneCell' = true := fun u hu => by
      simp only [vals, List.mem_map] at hu
      obtain ⟨_, _, rfl⟩ := hu
      rfl
    refine wp_append_own w s x t ho base e i (.int .i64 0) 1 8 ht hi hz hsize hby rfl (by decide) v n (vals xs) hs hown ad m c (vals ys) hx (by simp [vals, hl]) hnews h1 (by unfold maxLen; omega) (by omega) hbase fun v' w' h2 h3 _ => h v' w' ?_ h3
    rw [show vals (xs ++ ys) = vals xs ++ vals ys by simp [vals]]
    exact h2

set_option maxHeartbeats 32000000 in
theorem walkPicks (A : Option Addr) (k c : Nat) (b : Nat → Int) (w : World) (h : Sl w 0 w.heap.size A k (fun j => .int .u8 (b j))) (hb : ∀ j, 0 ≤ b j ∧ b j ≤ 255) (hk : k ≤ 1048576) :
    Calls Try.prog 6 #[.slice A k c] w fun e w' => e = .returned (.bool true) ∧ Below w.heap.size w w' := by
  have HBY := Lib.hid hb
  have CD : Hid (∀ W, Below w.heap.size w W → Sl W 0 w.heap.size A k (fun j => .int .u8 (b j))) := fun W hW => h.below hW (Nat.le_refl _)
  clear h hb
  go_enter Try.func6, Try.ntmps6
  go_wp2_with fail
  refine (lwBig_any A k c w).mono ?_
  rintro e w' ⟨rfl, rfl⟩
  have hk2 : ¬ ((1048576 : Int) < (k : Int)) := by omega
  have DD := Lib.hid (DrawPicksOf_any 0 w.heap.size A k c b w hk HBY.out (CD.out w (Below.refl _ _)))
  go_wp2_with fail
  refine DD.out.mono ?_
  rintro e x1w ⟨b1, B1, c1, xs1, n1, rfl, hn1, hnn, ho, hbl⟩
  clear DD
  have BSx1w : Hid (Below w.heap.size w x1w) := hbl
  have Ux1w : Hid (Below w.heap.size w x1w) := BSx1w.out
  clear hbl
  have NN := Lib.hid hnn
  clear hnn
  have OB1 := Lib.hid ho
  clear ho
  obtain ⟨x2w, hx2w⟩ : ∃ V, V = x1w.alloc (.cells #[.int .i64 b1, .slice B1 xs1.length c1] 43) := ⟨_, rfl⟩
  obtain ⟨q1, hq1⟩ : ∃ q, q = x1w.heap.size := ⟨_, rfl⟩
  have hzq1 : x1w.heap.size = q1 := hq1.symm
  have Kq1 : Hid (x2w.heap[q1]? = some (.cells #[.int .i64 b1, .slice B1 xs1.length c1] 43 (0, 0))) := by show _ = _; rw [hx2w, ← hzq1]; exact heap_alloc_new x1w _
  have BSx2w : Hid (Below x1w.heap.size x1w x2w) := by rw [hx2w]; exact below_new x1w _
  have Ux2w : Hid (Below w.heap.size w x2w) := Ux1w.out.trans (BSx2w.out.mono Ux1w.out.size)
  have HWx2w := Lib.hid hx2w; have HBq1 := Lib.hid hq1
  clear hzq1
  clear hx2w hq1
  go_upto_region 4 with (fail)
  rw [← HWx2w.out, ← HBq1.out]
  clear HWx2w HBq1
  have KK_q1 := Kq1.out
  have q0 := cell_of_row x2w _ 0 _ _ _ KK_q1; have q1 := cell_of_row x2w _ 1 _ _ _ KK_q1
  simp at q0 q1
  clear KK_q1
  obtain ⟨pq, ids, pb, ps, hq⟩ : ∃ k0 k1 k2 k3, picks5 b1 xs1 n1 = (k0, k1, k2, k3) := ⟨_, _, _, _, rfl⟩
  have EQP := Lib.hid hq
  have LP : Hid (ids.length ≤ 200 ∧ ps.length ≤ 6) := by have := picks5_len b1 xs1 n1; rw [hq] at this; exact this
  have IP0 := implPicksOf_any _ _ B1 c1 b1 xs1 n1 x2w (by omega) ((OR.sl0 OB1.out).below BSx2w.out (Nat.le_refl _))
  rw [hq] at IP0
  clear hq
  have DD := Lib.hid (IP0)
  clear IP0
  go_wp2_with fail
  refine DD.out.mono ?_
  rintro e x3w ⟨I2, e2, Q2, d2, rfl, hoi, ho, hbl⟩
  dsimp only
  clear DD
  have BSx3w : Hid (Below x2w.heap.size x2w x3w) := hbl
  have Ux3w : Hid (Below w.heap.size w x3w) := Ux2w.out.trans (BSx3w.out.mono Ux2w.out.size)
  clear hbl
  have OI2 := Lib.hid hoi
  clear hoi
  have OQ2 := Lib.hid ho
  clear ho
  clear q0 q1
  obtain ⟨x4w, hx4w⟩ : ∃ V, V = x3w.alloc (.cells #[.int .i64 pq, .slice I2 ids.length e2, .int .i64 pb, .slice Q2 ps.length d2] 48) := ⟨_, rfl⟩
  obtain ⟨q2, hq2⟩ : ∃ q, q = x3w.heap.size := ⟨_, rfl⟩
  have hzq2 : x3w.heap.size = q2 := hq2.symm
  have Kq2 : Hid (x4w.heap[q2]? = some (.cells #[.int .i64 pq, .slice I2 ids.length e2, .int .i64 pb, .slice Q2 ps.length d2] 48 (0, 0))) := by show _ = _; rw [hx4w, ← hzq2]; exact heap_alloc_new x3w _
  have BSx4w : Hid (Below x3w.heap.size x3w x4w) := by rw [hx4w]; exact below_new x3w _
  have Ux4w : Hid (Below w.heap.size w x4w) := Ux3w.out.trans (BSx4w.out.mono Ux3w.out.size)
  have HWx4w := Lib.hid hx4w; have HBq2 := Lib.hid hq2
  clear hzq2
  clear hx4w hq2
  go_upto_region 5 with (fail)
  rw [← HWx4w.out, ← HBq2.out]
  clear HWx4w HBq2
  have DD := Lib.hid (DrawPickSched_any 0 w.heap.size A k c b x4w hk HBY.out (CD.out x4w Ux4w.out))
  go_wp2_with fail
  refine DD.out.mono ?_
  rintro e x5w ⟨b3, B3, c3, xs3, rfl, hn3, ho, hbl⟩
  clear DD
  have BSx5w : Hid (Below x4w.heap.size x4w x5w) := hbl
  have Ux5w : Hid (Below w.heap.size w x5w) := Ux4w.out.trans (BSx5w.out.mono Ux4w.out.size)
  clear hbl
  have OB3 := Lib.hid ho
  clear ho
  obtain ⟨x6w, hx6w⟩ : ∃ V, V = x5w.alloc (.cells #[.int .i64 b3, .slice B3 xs3.length c3] 43) := ⟨_, rfl⟩
  obtain ⟨q3, hq3⟩ : ∃ q, q = x5w.heap.size := ⟨_, rfl⟩
  have hzq3 : x5w.heap.size = q3 := hq3.symm
  have Kq3 : Hid (x6w.heap[q3]? = some (.cells #[.int .i64 b3, .slice B3 xs3.length c3] 43 (0, 0))) := by show _ = _; rw [hx6w, ← hzq3]; exact heap_alloc_new x5w _
  have BSx6w : Hid (Below x5w.heap.size x5w x6w) := by rw [hx6w]; exact below_new x5w _
  have Ux6w : Hid (Below w.heap.size w x6w) := Ux5w.out.trans (BSx6w.out.mono Ux5w.out.size)
  have HWx6w := Lib.hid hx6w; have HBq3 := Lib.hid hq3
  clear hzq3
  clear hx6w hq3
  go_upto_region 6 with (fail)
  rw [← HWx6w.out, ← HBq3.out]
  clear HWx6w HBq3
  have KK_q3 := Kq3.out
  have q0 := cell_of_row x6w _ 0 _ _ _ KK_q3; have q1 := cell_of_row x6w _ 1 _ _ _ KK_q3
  simp at q0 q1
  clear KK_q3
  obtain ⟨oq, oi, orr, ob, zs, hq⟩ : ∃ k0 k1 k2 k3 k4, pick5 b3 xs3 = (k0, k1, k2, k3, k4) := ⟨_, _, _, _, _, rfl⟩
  have EQO := Lib.hid hq
  have LO : Hid (zs.length ≤ 6) := by have := pick5_len b3 xs3; rw [hq] at this; exact this
  have IP0 := implPickSched_any _ _ B3 c3 b3 xs3 x6w (by omega) ((OR.sl0 OB3.out).below BSx6w.out (Nat.le_refl _))
  rw [hq] at IP0
  clear hq
  have DD := Lib.hid (IP0)
  clear IP0
  go_wp2_with fail
  refine DD.out.mono ?_
  rintro e x7w ⟨Q4, d4, rfl, ho, hbl⟩
  dsimp only
  clear DD
  have BSx7w : Hid (Below x6w.heap.size x6w x7w) := hbl
  have Ux7w : Hid (Below w.heap.size w x7w) := Ux6w.out.trans (BSx7w.out.mono Ux6w.out.size)
  clear hbl
  have OQ4 := Lib.hid ho
  clear ho
  clear q0 q1
  obtain ⟨x8w, hx8w⟩ : ∃ V, V = x7w.alloc (.cells #[.int .i64 oq, .int .i64 oi, .int .i64 orr, .int .i64 ob, .slice Q4 zs.length d4] 56) := ⟨_, rfl⟩
  obtain ⟨q4, hq4⟩ : ∃ q, q = x7w.heap.size := ⟨_, rfl⟩
  have hzq4 : x7w.heap.size = q4 := hq4.symm
  have Kq4 : Hid (x8w.heap[q4]? = some (.cells #[.int .i64 oq, .int .i64 oi, .int .i64 orr, .int .i64 ob, .slice Q4 zs.length d4] 56 (0, 0))) := by show _ = _; rw [hx8w, ← hzq4]; exact heap_alloc_new x7w _
  have BSx8w : Hid (Below x7w.heap.size x7w x8w) := by rw [hx8w]; exact below_new x7w _
  have Ux8w : Hid (Below w.heap.size w x8w) := Ux7w.out.trans (BSx8w.out.mono Ux7w.out.size)
  have HWx8w := Lib.hid hx8w; have HBq4 := Lib.hid hq4
  clear hzq4
  clear hx8w hq4
  go_upto_region 7 with (fail)
  rw [← HWx8w.out, ← HBq4.out]
  clear HWx8w HBq4
  have DD := Lib.hid (DrawRebaseSched_any 0 w.heap.size A k c b x8w hk HBY.out (CD.out x8w Ux8w.out))
  go_wp2_with fail
  refine DD.out.mono ?_
  rintro e x9w ⟨b5, B5, c5, xs5, rfl, hn5, ho, hbl⟩
  clear DD
  have BSx9w : Hid (Below x8w.heap.size x8w x9w) := hbl
  have Ux9w : Hid (Below w.heap.size w x9w) := Ux8w.out.trans (BSx9w.out.mono Ux8w.out.size)
  clear hbl
  have OB5 := Lib.hid ho
  clear ho
  obtain ⟨x10w, hx10w⟩ : ∃ V, V = x9w.alloc (.cells #[.int .i64 b5, .slice B5 xs5.length c5] 43) := ⟨_, rfl⟩
  obtain ⟨q5, hq5⟩ : ∃ q, q = x9w.heap.size := ⟨_, rfl⟩
  have hzq5 : x9w.heap.size = q5 := hq5.symm
  have Kq5 : Hid (x10w.heap[q5]? = some (.cells #[.int .i64 b5, .slice B5 xs5.length c5] 43 (0, 0))) := by show _ = _; rw [hx10w, ← hzq5]; exact heap_alloc_new x9w _
  have BSx10w : Hid (Below x9w.heap.size x9w x10w) := by rw [hx10w]; exact below_new x9w _
  have Ux10w : Hid (Below w.heap.size w x10w) := Ux9w.out.trans (BSx10w.out.mono Ux9w.out.size)
  have HWx10w := Lib.hid hx10w; have HBq5 := Lib.hid hq5
  clear hzq5
  clear hx10w hq5
  go_upto_region 8 with (fail)
  rw [← HWx10w.out, ← HBq5.out]
  clear HWx10w HBq5
  have KK_q5 := Kq5.out
  have q0 := cell_of_row x10w _ 0 _ _ _ KK_q5; have q1 := cell_of_row x10w _ 1 _ _ _ KK_q5
  simp at q0 q1
  clear KK_q5
  obtain ⟨rq, ri, rr, rb, rs, hq⟩ : ∃ k0 k1 k2 k3 k4, rebase5 b5 xs5 = (k0, k1, k2, k3, k4) := ⟨_, _, _, _, _, rfl⟩
  have EQR := Lib.hid hq
  have LR : Hid (rs.length ≤ 6) := by have := rebase5_len b5 xs5; rw [hq] at this; exact this
  have IP0 := implRebaseSched_any _ _ B5 c5 b5 xs5 x10w (by omega) ((OR.sl0 OB5.out).below BSx10w.out (Nat.le_refl _))
  rw [hq] at IP0
  clear hq
  have DD := Lib.hid (IP0)
  clear IP0
  go_wp2_with fail
  refine DD.out.mono ?_
  rintro e x11w ⟨Q6, d6, rfl, ho, hbl⟩
  dsimp only
  clear DD
  have BSx11w : Hid (Below x10w.heap.size x10w x11w) := hbl
  have Ux11w : Hid (Below w.heap.size w x11w) := Ux10w.out.trans (BSx11w.out.mono Ux10w.out.size)
  clear hbl
  have OQ6 := Lib.hid ho
  clear ho
  clear q0 q1
  obtain ⟨x12w, hx12w⟩ : ∃ V, V = x11w.alloc (.cells #[.int .i64 rq, .int .i64 ri, .int .i64 rr, .int .i64 rb, .slice Q6 rs.length d6] 56) := ⟨_, rfl⟩
  obtain ⟨q6, hq6⟩ : ∃ q, q = x11w.heap.size := ⟨_, rfl⟩
  have hzq6 : x11w.heap.size = q6 := hq6.symm
  have Kq6 : Hid (x12w.heap[q6]? = some (.cells #[.int .i64 rq, .int .i64 ri, .int .i64 rr, .int .i64 rb, .slice Q6 rs.length d6] 56 (0, 0))) := by show _ = _; rw [hx12w, ← hzq6]; exact heap_alloc_new x11w _
  have BSx12w : Hid (Below x11w.heap.size x11w x12w) := by rw [hx12w]; exact below_new x11w _
  have Ux12w : Hid (Below w.heap.size w x12w) := Ux11w.out.trans (BSx12w.out.mono Ux11w.out.size)
  have HWx12w := Lib.hid hx12w; have HBq6 := Lib.hid hq6
  clear hzq6
  clear hx12w hq6
  go_upto_region 9 with (fail)
  rw [← HWx12w.out, ← HBq6.out]
  clear HWx12w HBq6
  obtain ⟨wy, hwy⟩ : ∃ V, V = x12w := ⟨_, rfl⟩
  have F : Hid (∀ W, Below wy.heap.size wy W → (W.cell? ⟨q1, 0, none⟩ = some (.int .i64 b1) ∧ W.cell? ⟨q1, 1, none⟩ = some (.slice B1 xs1.length c1)) ∧ (W.cell? ⟨q2, 0, none⟩ = some (.int .i64 pq) ∧ W.cell? ⟨q2, 1, none⟩ = some (.slice I2 ids.length e2) ∧ W.cell? ⟨q2, 2, none⟩ = some (.int .i64 pb) ∧ W.cell? ⟨q2, 3, none⟩ = some (.slice Q2 ps.length d2)) ∧ (W.cell? ⟨q3, 0, none⟩ = some (.int .i64 b3) ∧ W.cell? ⟨q3, 1, none⟩ = some (.slice B3 xs3.length c3)) ∧ (W.cell? ⟨q4, 0, none⟩ = some (.int .i64 oq) ∧ W.cell? ⟨q4, 1, none⟩ = some (.int .i64 oi) ∧ W.cell? ⟨q4, 2, none⟩ = some (.int .i64 orr) ∧ W.cell? ⟨q4, 3, none⟩ = some (.int .i64 ob) ∧ W.cell? ⟨q4, 4, none⟩ = some (.slice Q4 zs.length d4)) ∧ (W.cell? ⟨q5, 0, none⟩ = some (.int .i64 b5) ∧ W.cell? ⟨q5, 1, none⟩ = some (.slice B5 xs5.length c5)) ∧ (W.cell? ⟨q6, 0, none⟩ = some (.int .i64 rq) ∧ W.cell? ⟨q6, 1, none⟩ = some (.int .i64 ri) ∧ W.cell? ⟨q6, 2, none⟩ = some (.int .i64 rr) ∧ W.cell? ⟨q6, 3, none⟩ = some (.int .i64 rb) ∧ W.cell? ⟨q6, 4, none⟩ = some (.slice Q6 rs.length d6)) ∧ Sl W 0 wy.heap.size B1 (xs1.length * 3) (fun j => .int .i64 (gi (fl xs1) j)) ∧ Sl W 0 wy.heap.size I2 (ids.length) (fun j => .int .i64 (gi ids j)) ∧ Sl W 0 wy.heap.size Q2 (ps.length * 3) (fun j => .int .i64 (gi (fl ps) j)) ∧ Sl W 0 wy.heap.size B3 (xs3.length * 3) (fun j => .int .i64 (gi (fl xs3) j)) ∧ Sl W 0 wy.heap.size Q4 (zs.length * 3) (fun j => .int .i64 (gi (fl zs) j)) ∧ Sl W 0 wy.heap.size B5 (xs5.length * 3) (fun j => .int .i64 (gi (fl xs5) j)) ∧ Sl W 0 wy.heap.size Q6 (rs.length * 3) (fun j => .int .i64 (gi (fl rs) j)) ∧ Below w.heap.size w W) := fun W hW => by
    rw [hwy] at hW ⊢
    have sx1w := BSx1w.out.size
    have sx2w := BSx2w.out.size
    have sx3w := BSx3w.out.size
    have sx4w := BSx4w.out.size
    have sx5w := BSx5w.out.size
    have sx6w := BSx6w.out.size
    have sx7w := BSx7w.out.size
    have sx8w := BSx8w.out.size
    have sx9w := BSx9w.out.size
    have sx10w := BSx10w.out.size
    have sx11w := BSx11w.out.size
    have sx12w := BSx12w.out.size
    have fx11w : Below x11w.heap.size x11w W := BSx12w.out.trans (hW.mono sx12w)
    have fx10w : Below x10w.heap.size x10w W := BSx11w.out.trans (fx11w.mono sx11w)
    have fx9w : Below x9w.heap.size x9w W := BSx10w.out.trans (fx10w.mono sx10w)
    have fx8w : Below x8w.heap.size x8w W := BSx9w.out.trans (fx9w.mono sx9w)
    have fx7w : Below x7w.heap.size x7w W := BSx8w.out.trans (fx8w.mono sx8w)
    have fx6w : Below x6w.heap.size x6w W := BSx7w.out.trans (fx7w.mono sx7w)
    have fx5w : Below x5w.heap.size x5w W := BSx6w.out.trans (fx6w.mono sx6w)
    have fx4w : Below x4w.heap.size x4w W := BSx5w.out.trans (fx5w.mono sx5w)
    have fx3w : Below x3w.heap.size x3w W := BSx4w.out.trans (fx4w.mono sx4w)
    have fx2w : Below x2w.heap.size x2w W := BSx3w.out.trans (fx3w.mono sx3w)
    have fx1w : Below x1w.heap.size x1w W := BSx2w.out.trans (fx2w.mono sx2w)
    have fw : Below w.heap.size w W := BSx1w.out.trans (fx1w.mono sx1w)
    have jq1 := (fx2w.block q1 (Array.getElem?_eq_some_iff.1 Kq1.out).1).trans Kq1.out
    have jq2 := (fx4w.block q2 (Array.getElem?_eq_some_iff.1 Kq2.out).1).trans Kq2.out
    have jq3 := (fx6w.block q3 (Array.getElem?_eq_some_iff.1 Kq3.out).1).trans Kq3.out
    have jq4 := (fx8w.block q4 (Array.getElem?_eq_some_iff.1 Kq4.out).1).trans Kq4.out
    have jq5 := (fx10w.block q5 (Array.getElem?_eq_some_iff.1 Kq5.out).1).trans Kq5.out
    have jq6 := (hW.block q6 (Array.getElem?_eq_some_iff.1 Kq6.out).1).trans Kq6.out
    have gB1 := ((OR.sl0 OB1.out).below fx1w (Nat.le_refl _)).wide (Nat.zero_le _) (show x1w.heap.size ≤ x12w.heap.size by omega)
    have gI2 := ((OR.sl0 OI2.out).below fx3w (Nat.le_refl _)).wide (Nat.zero_le _) (show x3w.heap.size ≤ x12w.heap.size by omega)
    rw [Nat.mul_one] at gI2
    have gQ2 := ((OR.sl0 OQ2.out).below fx3w (Nat.le_refl _)).wide (Nat.zero_le _) (show x3w.heap.size ≤ x12w.heap.size by omega)
    have gB3 := ((OR.sl0 OB3.out).below fx5w (Nat.le_refl _)).wide (Nat.zero_le _) (show x5w.heap.size ≤ x12w.heap.size by omega)
    have gQ4 := ((OR.sl0 OQ4.out).below fx7w (Nat.le_refl _)).wide (Nat.zero_le _) (show x7w.heap.size ≤ x12w.heap.size by omega)
    have gB5 := ((OR.sl0 OB5.out).below fx9w (Nat.le_refl _)).wide (Nat.zero_le _) (show x9w.heap.size ≤ x12w.heap.size by omega)
    have gQ6 := ((OR.sl0 OQ6.out).below fx11w (Nat.le_refl _)).wide (Nat.zero_le _) (show x11w.heap.size ≤ x12w.heap.size by omega)
    exact ⟨⟨cell_of_row W _ 0 _ _ _ jq1, cell_of_row W _ 1 _ _ _ jq1⟩, ⟨cell_of_row W _ 0 _ _ _ jq2, cell_of_row W _ 1 _ _ _ jq2, cell_of_row W _ 2 _ _ _ jq2, cell_of_row W _ 3 _ _ _ jq2⟩, ⟨cell_of_row W _ 0 _ _ _ jq3, cell_of_row W _ 1 _ _ _ jq3⟩, ⟨cell_of_row W _ 0 _ _ _ jq4, cell_of_row W _ 1 _ _ _ jq4, cell_of_row W _ 2 _ _ _ jq4, cell_of_row W _ 3 _ _ _ jq4, cell_of_row W _ 4 _ _ _ jq4⟩, ⟨cell_of_row W _ 0 _ _ _ jq5, cell_of_row W _ 1 _ _ _ jq5⟩, ⟨cell_of_row W _ 0 _ _ _ jq6, cell_of_row W _ 1 _ _ _ jq6, cell_of_row W _ 2 _ _ _ jq6, cell_of_row W _ 3 _ _ _ jq6, cell_of_row W _ 4 _ _ _ jq6⟩, gB1, gI2, gQ2, gB3, gQ4, gB5, gQ6, fw⟩
  clear BSx1w Ux1w BSx2w Ux2w BSx3w Ux3w BSx4w Ux4w BSx5w Ux5w BSx6w Ux6w BSx7w Ux7w BSx8w Ux8w BSx9w Ux9w BSx10w Ux10w BSx11w Ux11w BSx12w Ux12w Kq1 Kq2 Kq3 Kq4 Kq5 Kq6 OB1 OI2 OQ2 OB3 OQ4 OB5 OQ6
  rw [← hwy]
  clear hwy
  have UP : ∀ {W W' : World}, Below wy.heap.size wy W → Below W.heap.size W W' → Below wy.heap.size wy W' := fun a b => a.trans (b.mono a.size)
  have KH : Hid (∀ W, Below wy.heap.size wy W → ((W.cell? ⟨q1, 0, none⟩ = some (.int .i64 b1) ∧ W.cell? ⟨q1, 1, none⟩ = some (.slice B1 xs1.length c1)) ∧ (W.cell? ⟨q2, 0, none⟩ = some (.int .i64 pq) ∧ W.cell? ⟨q2, 1, none⟩ = some (.slice I2 ids.length e2) ∧ W.cell? ⟨q2, 2, none⟩ = some (.int .i64 pb) ∧ W.cell? ⟨q2, 3, none⟩ = some (.slice Q2 ps.length d2)) ∧ (W.cell? ⟨q3, 0, none⟩ = some (.int .i64 b3) ∧ W.cell? ⟨q3, 1, none⟩ = some (.slice B3 xs3.length c3)) ∧ (W.cell? ⟨q4, 0, none⟩ = some (.int .i64 oq) ∧ W.cell? ⟨q4, 1, none⟩ = some (.int .i64 oi) ∧ W.cell? ⟨q4, 2, none⟩ = some (.int .i64 orr) ∧ W.cell? ⟨q4, 3, none⟩ = some (.int .i64 ob) ∧ W.cell? ⟨q4, 4, none⟩ = some (.slice Q4 zs.length d4)) ∧ (W.cell? ⟨q5, 0, none⟩ = some (.int .i64 b5) ∧ W.cell? ⟨q5, 1, none⟩ = some (.slice B5 xs5.length c5)) ∧ (W.cell? ⟨q6, 0, none⟩ = some (.int .i64 rq) ∧ W.cell? ⟨q6, 1, none⟩ = some (.int .i64 ri) ∧ W.cell? ⟨q6, 2, none⟩ = some (.int .i64 rr) ∧ W.cell? ⟨q6, 3, none⟩ = some (.int .i64 rb) ∧ W.cell? ⟨q6, 4, none⟩ = some (.slice Q6 rs.length d6))) ∧ Below wy.heap.size wy W) := fun W hW => by
    obtain ⟨h0, h1, h2, h3, h4, h5, _⟩ := F.out W hW
    exact ⟨⟨h0, h1, h2, h3, h4, h5⟩, hW⟩
  have SPP : Hid (∀ W, Below wy.heap.size wy W → Calls Try.prog 27 #[.agg #[.int .i64 b1, .slice B1 xs1.length c1], .int .i64 n1] W fun e w' => ∃ I7 e7 A7 c7, e = .returned (.agg #[.int .i64 pq, .slice I7 ids.length e7, .int .i64 pb, .slice A7 ps.length c7]) ∧ Sl w' W.heap.size w'.heap.size I7 ids.length (fun j => .int .i64 (gi ids j)) ∧ OR 52 3 w' W.heap.size A7 ps.length c7 (fl ps) ∧ Below wy.heap.size wy w') := fun W hW => by
    obtain ⟨_, _, _, _, _, _, hr, _, _, _, _, _, _, _⟩ := F.out W hW
    have := specPicksOf_any _ _ B1 c1 b1 xs1 n1 W (by omega) hr
    rw [EQP.out] at this
    exact this.mono fun e w' ⟨I, d, A, c, he, hoi, ho, hb⟩ => ⟨I, d, A, c, he, by have := OR.sl0 hoi; rwa [Nat.mul_one] at this, ho, UP hW hb⟩
  have LWN : Hid (∀ W lo hi I7 e7, Below wy.heap.size wy W → Sl W lo hi I7 ids.length (fun j => .int .i64 (gi ids j)) → Calls Try.prog 48 #[.slice I2 ids.length e2, .slice I7 ids.length e7] W fun e w' => e = .returned (.bool true) ∧ Below wy.heap.size wy w') := fun W lo hi I7 e7 hW h7 => by
    obtain ⟨_, _, _, _, _, _, _, hr, _, _, _, _, _, _⟩ := F.out W hW
    exact (lwNums_any _ _ lo hi I2 I7 ids ids _ _ e2 e7 W (by have := LP.out; omega) rfl rfl hr h7).mono fun e w' hh => ⟨hh.1.trans (by rw [decide_eq_true rfl]), UP hW hh.2⟩
  have SPK : Hid (∀ W, Below wy.heap.size wy W → Calls Try.prog 49 #[.agg #[.int .i64 b3, .slice B3 xs3.length c3]] W fun e w' => ∃ A7 c7, e = .returned (.agg #[.int .i64 oq, .int .i64 oi, .int .i64 orr, .int .i64 ob, .slice A7 zs.length c7]) ∧ OR 52 3 w' W.heap.size A7 zs.length c7 (fl zs) ∧ Below wy.heap.size wy w') := fun W hW => by
    obtain ⟨_, _, _, _, _, _, _, _, _, hr, _, _, _, _⟩ := F.out W hW
    have := specPickSched_any _ _ B3 c3 b3 xs3 W (by omega) hr
    rw [EQO.out] at this
    exact this.mono fun e w' ⟨A, c, he, ho, hb⟩ => ⟨A, c, he, ho, UP hW hb⟩
  have SPR : Hid (∀ W, Below wy.heap.size wy W → Calls Try.prog 50 #[.agg #[.int .i64 b5, .slice B5 xs5.length c5]] W fun e w' => ∃ A7 c7, e = .returned (.agg #[.int .i64 rq, .int .i64 ri, .int .i64 rr, .int .i64 rb, .slice A7 rs.length c7]) ∧ OR 52 3 w' W.heap.size A7 rs.length c7 (fl rs) ∧ Below wy.heap.size wy w') := fun W hW => by
    obtain ⟨_, _, _, _, _, _, _, _, _, _, _, hr, _, _⟩ := F.out W hW
    have := specRebaseSched_any _ _ B5 c5 b5 xs5 W (by omega) hr
    rw [EQR.out] at this
    exact this.mono fun e w' ⟨A, c, he, ho, hb⟩ => ⟨A, c, he, ho, UP hW hb⟩
  have SMR : Hid (∀ W lo hi A7 c7, Below wy.heap.size wy W → RS W lo hi A7 rs → Calls Try.prog 36 #[.agg #[.int .i64 rb, .slice Q6 rs.length d6], .agg #[.int .i64 rb, .slice A7 rs.length c7]] W fun e w' => e = .returned (.bool true) ∧ Below wy.heap.size wy w') := fun W lo hi A7 c7 hW h7 => by
    obtain ⟨_, _, _, _, _, _, _, _, _, _, _, _, hr, _⟩ := F.out W hW
    exact (implSameScheds_any _ _ lo hi Q6 d6 A7 c7 rb rb rs rs W (by have := LR.out; omega) hr h7).mono fun e w' hh => ⟨hh.1.trans (by rw [decide_eq_true ⟨rfl, rfl⟩]), UP hW hh.2⟩
  go_cut [89] from 14 (fun x wx => x = .bool false ∧ Below wy.heap.size wy wx)
  case first => as_aux_lemma =>
    have y1 : (pq != pq) = false := by simp
    have y2 : (oq != oq) = false := by simp
    have y3 : (oi != oi) = false := by simp
    have y4 : (rq != rq) = false := by simp
    have y5 : (rr != rr) = false := by simp
    have fs0 := fun (q i r b : Int) (A : Option Addr) (k c : Nat) (W : World) => run_sr0 q i r b A k c W
    have fs1 := fun (q i r b : Int) (A : Option Addr) (k c : Nat) (W : World) => run_sr1 q i r b A k c W
    have fs2 := fun (q i r b : Int) (A : Option Addr) (k c : Nat) (W : World) => run_sr2 q i r b A k c W
    have fs3 := fun (q i r b : Int) (A : Option Addr) (k c : Nat) (W : World) => run_sr3 q i r b A k c W
    have fp0 := fun (q b : Int) (A B : Option Addr) (k c n d : Nat) (W : World) => run_pr0 q b A B k c n d W
    have fp1 := fun (q b : Int) (A B : Option Addr) (k c n d : Nat) (W : World) => run_pr1 q b A B k c n d W
    refine wp_region_held_drew (S := fun W => ((W.cell? ⟨q1, 0, none⟩ = some (.int .i64 b1) ∧ W.cell? ⟨q1, 1, none⟩ = some (.slice B1 xs1.length c1)) ∧ (W.cell? ⟨q2, 0, none⟩ = some (.int .i64 pq) ∧ W.cell? ⟨q2, 1, none⟩ = some (.slice I2 ids.length e2) ∧ W.cell? ⟨q2, 2, none⟩ = some (.int .i64 pb) ∧ W.cell? ⟨q2, 3, none⟩ = some (.slice Q2 ps.length d2)) ∧ (W.cell? ⟨q3, 0, none⟩ = some (.int .i64 b3) ∧ W.cell? ⟨q3, 1, none⟩ = some (.slice B3 xs3.length c3)) ∧ (W.cell? ⟨q4, 0, none⟩ = some (.int .i64 oq) ∧ W.cell? ⟨q4, 1, none⟩ = some (.int .i64 oi) ∧ W.cell? ⟨q4, 2, none⟩ = some (.int .i64 orr) ∧ W.cell? ⟨q4, 3, none⟩ = some (.int .i64 ob) ∧ W.cell? ⟨q4, 4, none⟩ = some (.slice Q4 zs.length d4)) ∧ (W.cell? ⟨q5, 0, none⟩ = some (.int .i64 b5) ∧ W.cell? ⟨q5, 1, none⟩ = some (.slice B5 xs5.length c5)) ∧ (W.cell? ⟨q6, 0, none⟩ = some (.int .i64 rq) ∧ W.cell? ⟨q6, 1, none⟩ = some (.int .i64 ri) ∧ W.cell? ⟨q6, 2, none⟩ = some (.int .i64 rr) ∧ W.cell? ⟨q6, 3, none⟩ = some (.int .i64 rb) ∧ W.cell? ⟨q6, 4, none⟩ = some (.slice Q6 rs.length d6))) ∧ Below wy.heap.size wy W) (by kernel_rfl) (KH.out _ (Below.drew (Below.refl _ _))) (fun hHeld => ?_)
    obtain ⟨v0, hv0⟩ : ∃ v0, v0 = wy.drew := ⟨_, rfl⟩
    have BL0 : Hid (Below wy.heap.size wy v0) := by rw [hv0]; exact Below.drew (Below.refl _ _)
    rw [← hv0] at hHeld ⊢
    clear hv0
    refine wpAnyH_take (i := 0) (oi := _) (v := ?_) rfl (by kernel_rfl) (by kernel_rfl) (by kernel_rfl) (fun _ _ _ h => h) (Or.inl ⟨by kernel_rfl, ?_⟩) hHeld ?_
    rotate_left
    · (intro w hSw; (try dsimp only at hSw); go_simp; try with_reducible rfl)
    try simp only [Act.put, List.getElem_toArray, List.getElem_cons_succ, List.getElem_cons_zero, List.setIfInBounds_toArray, List.set_cons_zero, List.set_cons_succ]
    refine wpAnyH_take (i := 1) (oi := _) (v := ?_) rfl (by kernel_rfl) (by kernel_rfl) (by kernel_rfl) (fun _ _ _ h => h) (Or.inl ⟨by kernel_rfl, ?_⟩) hHeld ?_
    rotate_left
    · (intro w hSw; (try dsimp only at hSw); go_simp; try with_reducible rfl)
    try simp only [Act.put, List.getElem_toArray, List.getElem_cons_succ, List.getElem_cons_zero, List.setIfInBounds_toArray, List.set_cons_zero, List.set_cons_succ]
    refine wpAnyH_take (i := 2) (oi := _) (v := ?_) rfl (by kernel_rfl) (by kernel_rfl) (by kernel_rfl) (fun _ _ _ h => h) (Or.inl ⟨by kernel_rfl, ?_⟩) hHeld ?_
    rotate_left
    · (intro w hSw; (try dsimp only at hSw); go_simp; try with_reducible rfl)
    try simp only [Act.put, List.getElem_toArray, List.getElem_cons_succ, List.getElem_cons_zero, List.setIfInBounds_toArray, List.set_cons_zero, List.set_cons_succ]
    refine wpAnyH_take (i := 3) (oi := _) (v := ?_) rfl (by kernel_rfl) (by kernel_rfl) (by kernel_rfl) (fun _ _ _ h => h) (Or.inl ⟨by kernel_rfl, ?_⟩) hHeld ?_
    rotate_left
    · (intro w hSw; (try dsimp only at hSw); go_simp; try with_reducible rfl)
    try simp only [Act.put, List.getElem_toArray, List.getElem_cons_succ, List.getElem_cons_zero, List.setIfInBounds_toArray, List.set_cons_zero, List.set_cons_succ]
    refine wpAnyH_ready (rs := [4]) (by kernel_rfl) (by simp) ?_
    refine AllReadyH.cons (o := _) rfl (fun K0 hK0 => ?_) AllReadyH.nil
    go_simp
    refine (SPP.out _ (by go_split_ands; assumption)).mono ?_
    rintro e9 v1 ⟨I1_, e1_, A1_, k1_, rfl, _, _, hv1⟩
    go_wp2_with fail
    skip
    refine hK0.out _ _ (KH.out _ hv1) (fun hHeld => ?_)
    clear hK0 K0
    try simp only [Act.put, List.getElem_toArray, List.getElem_cons_succ, List.getElem_cons_zero, List.setIfInBounds_toArray, List.set_cons_zero, List.set_cons_succ]
    refine wpAnyH_take (i := 5) (oi := _) (v := ?_) rfl (by kernel_rfl) (by kernel_rfl) (by kernel_rfl) (fun _ _ _ h => h) (Or.inl ⟨by kernel_rfl, ?_⟩) hHeld ?_
    rotate_left
    · (intro w hSw; (try dsimp only at hSw); go_simp; try with_reducible rfl)
    try simp only [Act.put, List.getElem_toArray, List.getElem_cons_succ, List.getElem_cons_zero, List.setIfInBounds_toArray, List.set_cons_zero, List.set_cons_succ]
    refine wpAnyH_take (i := 6) (oi := _) (v := ?_) rfl (by kernel_rfl) (by kernel_rfl) (by kernel_rfl) (fun _ _ _ h => h) (Or.inl ⟨by kernel_rfl, ?_⟩) hHeld ?_
    rotate_left
    · (intro w hSw; (try dsimp only at hSw); go_simp; try with_reducible rfl)
    try simp only [Act.put, List.getElem_toArray, List.getElem_cons_succ, List.getElem_cons_zero, List.setIfInBounds_toArray, List.set_cons_zero, List.set_cons_succ]
    refine wpAnyH_take (i := 7) (oi := _) (v := ?_) rfl (by kernel_rfl) (by kernel_rfl) (by kernel_rfl) (fun _ _ _ h => h) (Or.inl ⟨by kernel_rfl, ?_⟩) hHeld ?_
    rotate_left
    · (intro w hSw; (try dsimp only at hSw); go_simp; try with_reducible rfl)
    try simp only [Act.put, List.getElem_toArray, List.getElem_cons_succ, List.getElem_cons_zero, List.setIfInBounds_toArray, List.set_cons_zero, List.set_cons_succ]
    refine wpAnyH_take (i := 8) (oi := _) (v := ?_) rfl (by kernel_rfl) (by kernel_rfl) (by kernel_rfl) (fun _ _ _ h => h) (Or.inl ⟨by kernel_rfl, ?_⟩) hHeld ?_
    rotate_left
    · (intro w hSw; (try dsimp only at hSw); go_simp; try with_reducible rfl)
    try simp only [Act.put, List.getElem_toArray, List.getElem_cons_succ, List.getElem_cons_zero, List.setIfInBounds_toArray, List.set_cons_zero, List.set_cons_succ]
    refine wpAnyH_take (i := 9) (oi := _) (v := ?_) rfl (by kernel_rfl) (by kernel_rfl) (by kernel_rfl) (fun _ _ _ h => h) (Or.inl ⟨by kernel_rfl, ?_⟩) hHeld ?_
    rotate_left
    · (intro w hSw; (try dsimp only at hSw); go_simp; try with_reducible rfl)
    try simp only [Act.put, List.getElem_toArray, List.getElem_cons_succ, List.getElem_cons_zero, List.setIfInBounds_toArray, List.set_cons_zero, List.set_cons_succ]
    refine wpAnyH_take (i := 10) (oi := _) (v := ?_) rfl (by kernel_rfl) (by kernel_rfl) (by kernel_rfl) (fun _ _ _ h => h) (Or.inl ⟨by kernel_rfl, ?_⟩) hHeld ?_
    rotate_left
    · (intro w hSw; (try dsimp only at hSw); go_simp; try with_reducible rfl)
    try simp only [Act.put, List.getElem_toArray, List.getElem_cons_succ, List.getElem_cons_zero, List.setIfInBounds_toArray, List.set_cons_zero, List.set_cons_succ]
    refine wpAnyH_take (i := 11) (oi := _) (v := ?_) rfl (by kernel_rfl) (by kernel_rfl) (by kernel_rfl) (fun _ _ _ h => h) (Or.inl ⟨by kernel_rfl, ?_⟩) hHeld ?_
    rotate_left
    · (intro w hSw; (try dsimp only at hSw); go_simp; try with_reducible rfl)
    try simp only [Act.put, List.getElem_toArray, List.getElem_cons_succ, List.getElem_cons_zero, List.setIfInBounds_toArray, List.set_cons_zero, List.set_cons_succ]
    refine wpAnyH_ready (rs := [12]) (by kernel_rfl) (by simp) ?_
    refine AllReadyH.cons (o := _) rfl (fun K0 hK0 => ?_) AllReadyH.nil
    go_simp
    refine (SPP.out _ (by go_split_ands; assumption)).mono ?_
    rintro e9 v2 ⟨I2_, e2_, A2_, k2_, rfl, hi2_, _, hv2⟩
    go_wp2_with fail
    skip
    refine hK0.out _ _ (KH.out _ hv2) (fun hHeld => ?_)
    clear hK0 K0
    try simp only [Act.put, List.getElem_toArray, List.getElem_cons_succ, List.getElem_cons_zero, List.setIfInBounds_toArray, List.set_cons_zero, List.set_cons_succ]
    refine wpAnyH_take (i := 13) (oi := _) (v := ?_) rfl (by kernel_rfl) (by kernel_rfl) (by kernel_rfl) (fun _ _ _ h => h) (Or.inl ⟨by kernel_rfl, ?_⟩) hHeld ?_
    rotate_left
    · (intro w hSw; (try dsimp only at hSw); go_simp; try with_reducible rfl)
    try simp only [Act.put, List.getElem_toArray, List.getElem_cons_succ, List.getElem_cons_zero, List.setIfInBounds_toArray, List.set_cons_zero, List.set_cons_succ]
    refine wpAnyH_ready (rs := [14]) (by kernel_rfl) (by simp) ?_
    refine AllReadyH.cons (o := _) rfl (fun K0 hK0 => ?_) AllReadyH.nil
    go_simp
    refine (LWN.out _ _ _ _ _ hv2 hi2_).mono ?_
    rintro e9 v3 ⟨rfl, hv3⟩
    go_wp2_with fail
    skip
    refine hK0.out _ _ (KH.out _ hv3) (fun hHeld => ?_)
    clear hK0 K0
    try simp only [Act.put, List.getElem_toArray, List.getElem_cons_succ, List.getElem_cons_zero, List.setIfInBounds_toArray, List.set_cons_zero, List.set_cons_succ]
    refine wpAnyH_take (i := 15) (oi := _) (v := ?_) rfl (by kernel_rfl) (by kernel_rfl) (by kernel_rfl) (fun _ _ _ h => h) (Or.inl ⟨by kernel_rfl, ?_⟩) hHeld ?_
    rotate_left
    · (intro w hSw; (try dsimp only at hSw); go_simp; try with_reducible rfl)
    try simp only [Act.put, List.getElem_toArray, List.getElem_cons_succ, List.getElem_cons_zero, List.setIfInBounds_toArray, List.set_cons_zero, List.set_cons_succ]
    refine wpAnyH_take (i := 16) (oi := _) (v := ?_) rfl (by kernel_rfl) (by kernel_rfl) (by kernel_rfl) (fun _ _ _ h => h) (Or.inl ⟨by kernel_rfl, ?_⟩) hHeld ?_
    rotate_left
    · (intro w hSw; (try dsimp only at hSw); go_simp; try with_reducible rfl)
    try simp only [Act.put, List.getElem_toArray, List.getElem_cons_succ, List.getElem_cons_zero, List.setIfInBounds_toArray, List.set_cons_zero, List.set_cons_succ]
    refine wpAnyH_take (i := 17) (oi := _) (v := ?_) rfl (by kernel_rfl) (by kernel_rfl) (by kernel_rfl) (fun _ _ _ h => h) (Or.inl ⟨by kernel_rfl, ?_⟩) hHeld ?_
    rotate_left
    · (intro w hSw; (try dsimp only at hSw); go_simp; try with_reducible rfl)
    try simp only [Act.put, List.getElem_toArray, List.getElem_cons_succ, List.getElem_cons_zero, List.setIfInBounds_toArray, List.set_cons_zero, List.set_cons_succ]
    refine wpAnyH_take (i := 18) (oi := _) (v := ?_) rfl (by kernel_rfl) (by kernel_rfl) (by kernel_rfl) (fun _ _ _ h => h) (Or.inl ⟨by kernel_rfl, ?_⟩) hHeld ?_
    rotate_left
    · (intro w hSw; (try dsimp only at hSw); go_simp; try with_reducible rfl)
    try simp only [Act.put, List.getElem_toArray, List.getElem_cons_succ, List.getElem_cons_zero, List.setIfInBounds_toArray, List.set_cons_zero, List.set_cons_succ]
    refine wpAnyH_take (i := 19) (oi := _) (v := ?_) rfl (by kernel_rfl) (by kernel_rfl) (by kernel_rfl) (fun _ _ _ h => h) (Or.inl ⟨by kernel_rfl, ?_⟩) hHeld ?_
    rotate_left
    · (intro w hSw; (try dsimp only at hSw); go_simp; try with_reducible rfl)
    try simp only [Act.put, List.getElem_toArray, List.getElem_cons_succ, List.getElem_cons_zero, List.setIfInBounds_toArray, List.set_cons_zero, List.set_cons_succ]
    refine wpAnyH_take (i := 20) (oi := _) (v := ?_) rfl (by kernel_rfl) (by kernel_rfl) (by kernel_rfl) (fun _ _ _ h => h) (Or.inl ⟨by kernel_rfl, ?_⟩) hHeld ?_
    rotate_left
    · (intro w hSw; (try dsimp only at hSw); go_simp; try with_reducible rfl)
    try simp only [Act.put, List.getElem_toArray, List.getElem_cons_succ, List.getElem_cons_zero, List.setIfInBounds_toArray, List.set_cons_zero, List.set_cons_succ]
    refine wpAnyH_ready (rs := [21]) (by kernel_rfl) (by simp) ?_
    refine AllReadyH.cons (o := _) rfl (fun K0 hK0 => ?_) AllReadyH.nil
    go_simp
    refine (SPK.out _ (by go_split_ands; assumption)).mono ?_
    rintro e9 v4 ⟨A4_, k4_, rfl, _, hv4⟩
    go_wp2_with fail
    skip
    refine hK0.out _ _ (KH.out _ hv4) (fun hHeld => ?_)
    clear hK0 K0
    try simp only [Act.put, List.getElem_toArray, List.getElem_cons_succ, List.getElem_cons_zero, List.setIfInBounds_toArray, List.set_cons_zero, List.set_cons_succ]
    refine wpAnyH_take (i := 22) (oi := _) (v := ?_) rfl (by kernel_rfl) (by kernel_rfl) (by kernel_rfl) (fun _ _ _ h => h) (Or.inl ⟨by kernel_rfl, ?_⟩) hHeld ?_
    rotate_left
    · (intro w hSw; (try dsimp only at hSw); go_simp; try with_reducible rfl)
    try simp only [Act.put, List.getElem_toArray, List.getElem_cons_succ, List.getElem_cons_zero, List.setIfInBounds_toArray, List.set_cons_zero, List.set_cons_succ]
    refine wpAnyH_take (i := 23) (oi := _) (v := ?_) rfl (by kernel_rfl) (by kernel_rfl) (by kernel_rfl) (fun _ _ _ h => h) (Or.inl ⟨by kernel_rfl, ?_⟩) hHeld ?_
    rotate_left
    · (intro w hSw; (try dsimp only at hSw); go_simp; try with_reducible rfl)
    try simp only [Act.put, List.getElem_toArray, List.getElem_cons_succ, List.getElem_cons_zero, List.setIfInBounds_toArray, List.set_cons_zero, List.set_cons_succ]
    refine wpAnyH_take (i := 24) (oi := _) (v := ?_) rfl (by kernel_rfl) (by kernel_rfl) (by kernel_rfl) (fun _ _ _ h => h) (Or.inl ⟨by kernel_rfl, ?_⟩) hHeld ?_
    rotate_left
    · (intro w hSw; (try dsimp only at hSw); go_simp; try with_reducible rfl)
    try simp only [Act.put, List.getElem_toArray, List.getElem_cons_succ, List.getElem_cons_zero, List.setIfInBounds_toArray, List.set_cons_zero, List.set_cons_succ]
    refine wpAnyH_take (i := 25) (oi := _) (v := ?_) rfl (by kernel_rfl) (by kernel_rfl) (by kernel_rfl) (fun _ _ _ h => h) (Or.inl ⟨by kernel_rfl, ?_⟩) hHeld ?_
    rotate_left
    · (intro w hSw; (try dsimp only at hSw); go_simp; try with_reducible rfl)
    try simp only [Act.put, List.getElem_toArray, List.getElem_cons_succ, List.getElem_cons_zero, List.setIfInBounds_toArray, List.set_cons_zero, List.set_cons_succ]
    refine wpAnyH_take (i := 26) (oi := _) (v := ?_) rfl (by kernel_rfl) (by kernel_rfl) (by kernel_rfl) (fun _ _ _ h => h) (Or.inl ⟨by kernel_rfl, ?_⟩) hHeld ?_
    rotate_left
    · (intro w hSw; (try dsimp only at hSw); go_simp; try with_reducible rfl)
    try simp only [Act.put, List.getElem_toArray, List.getElem_cons_succ, List.getElem_cons_zero, List.setIfInBounds_toArray, List.set_cons_zero, List.set_cons_succ]
    refine wpAnyH_take (i := 27) (oi := _) (v := ?_) rfl (by kernel_rfl) (by kernel_rfl) (by kernel_rfl) (fun _ _ _ h => h) (Or.inl ⟨by kernel_rfl, ?_⟩) hHeld ?_
    rotate_left
    · (intro w hSw; (try dsimp only at hSw); go_simp; try with_reducible rfl)
    try simp only [Act.put, List.getElem_toArray, List.getElem_cons_succ, List.getElem_cons_zero, List.setIfInBounds_toArray, List.set_cons_zero, List.set_cons_succ]
    refine wpAnyH_take (i := 28) (oi := _) (v := ?_) rfl (by kernel_rfl) (by kernel_rfl) (by kernel_rfl) (fun _ _ _ h => h) (Or.inl ⟨by kernel_rfl, ?_⟩) hHeld ?_
    rotate_left
    · (intro w hSw; (try dsimp only at hSw); go_simp; try with_reducible rfl)
    try simp only [Act.put, List.getElem_toArray, List.getElem_cons_succ, List.getElem_cons_zero, List.setIfInBounds_toArray, List.set_cons_zero, List.set_cons_succ]
    refine wpAnyH_ready (rs := [29]) (by kernel_rfl) (by simp) ?_
    refine AllReadyH.cons (o := _) rfl (fun K0 hK0 => ?_) AllReadyH.nil
    go_simp
    refine (SPK.out _ (by go_split_ands; assumption)).mono ?_
    rintro e9 v5 ⟨A5_, k5_, rfl, _, hv5⟩
    go_wp2_with fail
    skip
    refine hK0.out _ _ (KH.out _ hv5) (fun hHeld => ?_)
    clear hK0 K0
    try simp only [Act.put, List.getElem_toArray, List.getElem_cons_succ, List.getElem_cons_zero, List.setIfInBounds_toArray, List.set_cons_zero, List.set_cons_succ]
    refine wpAnyH_take (i := 30) (oi := _) (v := ?_) rfl (by kernel_rfl) (by kernel_rfl) (by kernel_rfl) (fun _ _ _ h => h) (Or.inl ⟨by kernel_rfl, ?_⟩) hHeld ?_
    rotate_left
    · (intro w hSw; (try dsimp only at hSw); go_simp; try with_reducible rfl)
    try simp only [Act.put, List.getElem_toArray, List.getElem_cons_succ, List.getElem_cons_zero, List.setIfInBounds_toArray, List.set_cons_zero, List.set_cons_succ]
    refine wpAnyH_take (i := 31) (oi := _) (v := ?_) rfl (by kernel_rfl) (by kernel_rfl) (by kernel_rfl) (fun _ _ _ h => h) (Or.inl ⟨by kernel_rfl, ?_⟩) hHeld ?_
    rotate_left
    · (intro w hSw; (try dsimp only at hSw); go_simp; try with_reducible rfl)
    try simp only [Act.put, List.getElem_toArray, List.getElem_cons_succ, List.getElem_cons_zero, List.setIfInBounds_toArray, List.set_cons_zero, List.set_cons_succ]
    refine wpAnyH_take (i := 32) (oi := _) (v := ?_) rfl (by kernel_rfl) (by kernel_rfl) (by kernel_rfl) (fun _ _ _ h => h) (Or.inl ⟨by kernel_rfl, ?_⟩) hHeld ?_
    rotate_left
    · (intro w hSw; (try dsimp only at hSw); go_simp; try with_reducible rfl)
    try simp only [Act.put, List.getElem_toArray, List.getElem_cons_succ, List.getElem_cons_zero, List.setIfInBounds_toArray, List.set_cons_zero, List.set_cons_succ]
    refine wpAnyH_take (i := 33) (oi := _) (v := ?_) rfl (by kernel_rfl) (by kernel_rfl) (by kernel_rfl) (fun _ _ _ h => h) (Or.inl ⟨by kernel_rfl, ?_⟩) hHeld ?_
    rotate_left
    · (intro w hSw; (try dsimp only at hSw); go_simp; try with_reducible rfl)
    try simp only [Act.put, List.getElem_toArray, List.getElem_cons_succ, List.getElem_cons_zero, List.setIfInBounds_toArray, List.set_cons_zero, List.set_cons_succ]
    refine wpAnyH_take (i := 34) (oi := _) (v := ?_) rfl (by kernel_rfl) (by kernel_rfl) (by kernel_rfl) (fun _ _ _ h => h) (Or.inl ⟨by kernel_rfl, ?_⟩) hHeld ?_
    rotate_left
    · (intro w hSw; (try dsimp only at hSw); go_simp; try with_reducible rfl)
    try simp only [Act.put, List.getElem_toArray, List.getElem_cons_succ, List.getElem_cons_zero, List.setIfInBounds_toArray, List.set_cons_zero, List.set_cons_succ]
    refine wpAnyH_take (i := 35) (oi := _) (v := ?_) rfl (by kernel_rfl) (by kernel_rfl) (by kernel_rfl) (fun _ _ _ h => h) (Or.inl ⟨by kernel_rfl, ?_⟩) hHeld ?_
    rotate_left
    · (intro w hSw; (try dsimp only at hSw); go_simp; try with_reducible rfl)
    try simp only [Act.put, List.getElem_toArray, List.getElem_cons_succ, List.getElem_cons_zero, List.setIfInBounds_toArray, List.set_cons_zero, List.set_cons_succ]
    refine wpAnyH_take (i := 36) (oi := _) (v := ?_) rfl (by kernel_rfl) (by kernel_rfl) (by kernel_rfl) (fun _ _ _ h => h) (Or.inl ⟨by kernel_rfl, ?_⟩) hHeld ?_
    rotate_left
    · (intro w hSw; (try dsimp only at hSw); go_simp; try with_reducible rfl)
    try simp only [Act.put, List.getElem_toArray, List.getElem_cons_succ, List.getElem_cons_zero, List.setIfInBounds_toArray, List.set_cons_zero, List.set_cons_succ]
    refine wpAnyH_ready (rs := [37]) (by kernel_rfl) (by simp) ?_
    refine AllReadyH.cons (o := _) rfl (fun K0 hK0 => ?_) AllReadyH.nil
    go_simp
    refine (SPR.out _ (by go_split_ands; assumption)).mono ?_
    rintro e9 v6 ⟨A6_, k6_, rfl, _, hv6⟩
    go_wp2_with fail
    skip
    refine hK0.out _ _ (KH.out _ hv6) (fun hHeld => ?_)
    clear hK0 K0
    try simp only [Act.put, List.getElem_toArray, List.getElem_cons_succ, List.getElem_cons_zero, List.setIfInBounds_toArray, List.set_cons_zero, List.set_cons_succ]
    refine wpAnyH_take (i := 38) (oi := _) (v := ?_) rfl (by kernel_rfl) (by kernel_rfl) (by kernel_rfl) (fun _ _ _ h => h) (Or.inl ⟨by kernel_rfl, ?_⟩) hHeld ?_
    rotate_left
    · (intro w hSw; (try dsimp only at hSw); go_simp; try with_reducible rfl)
    try simp only [Act.put, List.getElem_toArray, List.getElem_cons_succ, List.getElem_cons_zero, List.setIfInBounds_toArray, List.set_cons_zero, List.set_cons_succ]
    refine wpAnyH_take (i := 39) (oi := _) (v := ?_) rfl (by kernel_rfl) (by kernel_rfl) (by kernel_rfl) (fun _ _ _ h => h) (Or.inl ⟨by kernel_rfl, ?_⟩) hHeld ?_
    rotate_left
    · (intro w hSw; (try dsimp only at hSw); go_simp; try with_reducible rfl)
    try simp only [Act.put, List.getElem_toArray, List.getElem_cons_succ, List.getElem_cons_zero, List.setIfInBounds_toArray, List.set_cons_zero, List.set_cons_succ]
    refine wpAnyH_take (i := 40) (oi := _) (v := ?_) rfl (by kernel_rfl) (by kernel_rfl) (by kernel_rfl) (fun _ _ _ h => h) (Or.inl ⟨by kernel_rfl, ?_⟩) hHeld ?_
    rotate_left
    · (intro w hSw; (try dsimp only at hSw); go_simp; try with_reducible rfl)
    try simp only [Act.put, List.getElem_toArray, List.getElem_cons_succ, List.getElem_cons_zero, List.setIfInBounds_toArray, List.set_cons_zero, List.set_cons_succ]
    refine wpAnyH_take (i := 41) (oi := _) (v := ?_) rfl (by kernel_rfl) (by kernel_rfl) (by kernel_rfl) (fun _ _ _ h => h) (Or.inl ⟨by kernel_rfl, ?_⟩) hHeld ?_
    rotate_left
    · (intro w hSw; (try dsimp only at hSw); go_simp; try with_reducible rfl)
    try simp only [Act.put, List.getElem_toArray, List.getElem_cons_succ, List.getElem_cons_zero, List.setIfInBounds_toArray, List.set_cons_zero, List.set_cons_succ]
    refine wpAnyH_take (i := 42) (oi := _) (v := ?_) rfl (by kernel_rfl) (by kernel_rfl) (by kernel_rfl) (fun _ _ _ h => h) (Or.inl ⟨by kernel_rfl, ?_⟩) hHeld ?_
    rotate_left
    · (intro w hSw; (try dsimp only at hSw); go_simp; try with_reducible rfl)
    try simp only [Act.put, List.getElem_toArray, List.getElem_cons_succ, List.getElem_cons_zero, List.setIfInBounds_toArray, List.set_cons_zero, List.set_cons_succ]
    refine wpAnyH_take (i := 43) (oi := _) (v := ?_) rfl (by kernel_rfl) (by kernel_rfl) (by kernel_rfl) (fun _ _ _ h => h) (Or.inl ⟨by kernel_rfl, ?_⟩) hHeld ?_
    rotate_left
    · (intro w hSw; (try dsimp only at hSw); go_simp; try with_reducible rfl)
    try simp only [Act.put, List.getElem_toArray, List.getElem_cons_succ, List.getElem_cons_zero, List.setIfInBounds_toArray, List.set_cons_zero, List.set_cons_succ]
    refine wpAnyH_take (i := 44) (oi := _) (v := ?_) rfl (by kernel_rfl) (by kernel_rfl) (by kernel_rfl) (fun _ _ _ h => h) (Or.inl ⟨by kernel_rfl, ?_⟩) hHeld ?_
    rotate_left
    · (intro w hSw; (try dsimp only at hSw); go_simp; try with_reducible rfl)
    try simp only [Act.put, List.getElem_toArray, List.getElem_cons_succ, List.getElem_cons_zero, List.setIfInBounds_toArray, List.set_cons_zero, List.set_cons_succ]
    refine wpAnyH_ready (rs := [45]) (by kernel_rfl) (by simp) ?_
    refine AllReadyH.cons (o := _) rfl (fun K0 hK0 => ?_) AllReadyH.nil
    go_simp
    refine (SPR.out _ (by go_split_ands; assumption)).mono ?_
    rintro e9 v7 ⟨A7_, k7_, rfl, _, hv7⟩
    go_wp2_with fail
    skip
    refine hK0.out _ _ (KH.out _ hv7) (fun hHeld => ?_)
    clear hK0 K0
    try simp only [Act.put, List.getElem_toArray, List.getElem_cons_succ, List.getElem_cons_zero, List.setIfInBounds_toArray, List.set_cons_zero, List.set_cons_succ]
    refine wpAnyH_take (i := 46) (oi := _) (v := ?_) rfl (by kernel_rfl) (by kernel_rfl) (by kernel_rfl) (fun _ _ _ h => h) (Or.inl ⟨by kernel_rfl, ?_⟩) hHeld ?_
    rotate_left
    · (intro w hSw; (try dsimp only at hSw); go_simp; try with_reducible rfl)
    try simp only [Act.put, List.getElem_toArray, List.getElem_cons_succ, List.getElem_cons_zero, List.setIfInBounds_toArray, List.set_cons_zero, List.set_cons_succ]
    refine wpAnyH_take (i := 47) (oi := _) (v := ?_) rfl (by kernel_rfl) (by kernel_rfl) (by kernel_rfl) (fun _ _ _ h => h) (Or.inl ⟨by kernel_rfl, ?_⟩) hHeld ?_
    rotate_left
    · (intro w hSw; (try dsimp only at hSw); go_simp; try with_reducible rfl)
    try simp only [Act.put, List.getElem_toArray, List.getElem_cons_succ, List.getElem_cons_zero, List.setIfInBounds_toArray, List.set_cons_zero, List.set_cons_succ]
    refine wpAnyH_take (i := 48) (oi := _) (v := ?_) rfl (by kernel_rfl) (by kernel_rfl) (by kernel_rfl) (fun _ _ _ h => h) (Or.inl ⟨by kernel_rfl, ?_⟩) hHeld ?_
    rotate_left
    · (intro w hSw; (try dsimp only at hSw); go_simp; try with_reducible rfl)
    try simp only [Act.put, List.getElem_toArray, List.getElem_cons_succ, List.getElem_cons_zero, List.setIfInBounds_toArray, List.set_cons_zero, List.set_cons_succ]
    refine wpAnyH_take (i := 49) (oi := _) (v := ?_) rfl (by kernel_rfl) (by kernel_rfl) (by kernel_rfl) (fun _ _ _ h => h) (Or.inl ⟨by kernel_rfl, ?_⟩) hHeld ?_
    rotate_left
    · (intro w hSw; (try dsimp only at hSw); go_simp; try with_reducible rfl)
    try simp only [Act.put, List.getElem_toArray, List.getElem_cons_succ, List.getElem_cons_zero, List.setIfInBounds_toArray, List.set_cons_zero, List.set_cons_succ]
    refine wpAnyH_take (i := 50) (oi := _) (v := ?_) rfl (by kernel_rfl) (by kernel_rfl) (by kernel_rfl) (fun _ _ _ h => h) (Or.inl ⟨by kernel_rfl, ?_⟩) hHeld ?_
    rotate_left
    · (intro w hSw; (try dsimp only at hSw); go_simp; try with_reducible rfl)
    try simp only [Act.put, List.getElem_toArray, List.getElem_cons_succ, List.getElem_cons_zero, List.setIfInBounds_toArray, List.set_cons_zero, List.set_cons_succ]
    refine wpAnyH_take (i := 51) (oi := _) (v := ?_) rfl (by kernel_rfl) (by kernel_rfl) (by kernel_rfl) (fun _ _ _ h => h) (Or.inl ⟨by kernel_rfl, ?_⟩) hHeld ?_
    rotate_left
    · (intro w hSw; (try dsimp only at hSw); go_simp; try with_reducible rfl)
    try simp only [Act.put, List.getElem_toArray, List.getElem_cons_succ, List.getElem_cons_zero, List.setIfInBounds_toArray, List.set_cons_zero, List.set_cons_succ]
    refine wpAnyH_take (i := 52) (oi := _) (v := ?_) rfl (by kernel_rfl) (by kernel_rfl) (by kernel_rfl) (fun _ _ _ h => h) (Or.inl ⟨by kernel_rfl, ?_⟩) hHeld ?_
    rotate_left
    · (intro w hSw; (try dsimp only at hSw); go_simp; try with_reducible rfl)
    try simp only [Act.put, List.getElem_toArray, List.getElem_cons_succ, List.getElem_cons_zero, List.setIfInBounds_toArray, List.set_cons_zero, List.set_cons_succ]
    refine wpAnyH_ready (rs := [53]) (by kernel_rfl) (by simp) ?_
    refine AllReadyH.cons (o := _) rfl (fun K0 hK0 => ?_) AllReadyH.nil
    go_simp
    refine (SPR.out _ (by go_split_ands; assumption)).mono ?_
    rintro e9 v8 ⟨A8_, k8_, rfl, ho8_, hv8⟩
    go_wp2_with fail
    skip
    refine hK0.out _ _ (KH.out _ hv8) (fun hHeld => ?_)
    clear hK0 K0
    try simp only [Act.put, List.getElem_toArray, List.getElem_cons_succ, List.getElem_cons_zero, List.setIfInBounds_toArray, List.set_cons_zero, List.set_cons_succ]
    refine wpAnyH_take (i := 54) (oi := _) (v := ?_) rfl (by kernel_rfl) (by kernel_rfl) (by kernel_rfl) (fun _ _ _ h => h) (Or.inl ⟨by kernel_rfl, ?_⟩) hHeld ?_
    rotate_left
    · (intro w hSw; (try dsimp only at hSw); go_simp; try with_reducible rfl)
    try simp only [Act.put, List.getElem_toArray, List.getElem_cons_succ, List.getElem_cons_zero, List.setIfInBounds_toArray, List.set_cons_zero, List.set_cons_succ]
    refine wpAnyH_ready (rs := [55]) (by kernel_rfl) (by simp) ?_
    refine AllReadyH.cons (o := _) rfl (fun K0 hK0 => ?_) AllReadyH.nil
    go_simp
    refine (SMR.out _ _ _ _ _ hv8 (OR.sl0 ho8_)).mono ?_
    rintro e9 v9 ⟨rfl, hv9⟩
    go_wp2_with fail
    skip
    refine hK0.out _ _ (KH.out _ hv9) (fun hHeld => ?_)
    clear hK0 K0
    try simp only [Act.put, List.getElem_toArray, List.getElem_cons_succ, List.getElem_cons_zero, List.setIfInBounds_toArray, List.set_cons_zero, List.set_cons_succ]
    refine wpAnyH_take (i := 56) (oi := _) (v := ?_) rfl (by kernel_rfl) (by kernel_rfl) (by kernel_rfl) (fun _ _ _ h => h) (Or.inl ⟨by kernel_rfl, ?_⟩) hHeld ?_
    rotate_left
    · (intro w hSw; (try dsimp only at hSw); go_simp; try with_reducible rfl)
    try simp only [Act.put, List.getElem_toArray, List.getElem_cons_succ, List.getElem_cons_zero, List.setIfInBounds_toArray, List.set_cons_zero, List.set_cons_succ]
    refine wpAnyH_take (i := 57) (oi := _) (v := ?_) rfl (by kernel_rfl) (by kernel_rfl) (by kernel_rfl) (fun _ _ _ h => h) (Or.inl ⟨by kernel_rfl, ?_⟩) hHeld ?_
    rotate_left
    · (intro w hSw; (try dsimp only at hSw); go_simp; try with_reducible rfl)
    try simp only [Act.put, List.getElem_toArray, List.getElem_cons_succ, List.getElem_cons_zero, List.setIfInBounds_toArray, List.set_cons_zero, List.set_cons_succ]
    refine wpAnyH_done (by kernel_rfl) ?_ _
    clear hHeld
    go_wp2_with fail
    go_meet
    exact ⟨rfl, hv9⟩
  case rest =>
    rename World => v9
    obtain ⟨rfl, hb⟩ := hcut
    have BA := Lib.hid hb
    clear hb SPP LWN SPK SPR SMR KH
    go_upto_region 11 with (fail)
    go_cut [116] from 14 (fun x wx => x = .bool false ∧ Below wy.heap.size wy wx)
    case first => as_aux_lemma =>
      obtain ⟨_, _, ⟨u0, u1⟩, ⟨v0, v1, v2, v3, v4⟩, _, _, _, _, _, _, hr4, _, _, _⟩ := F.out v9 BA.out
      by_cases hl : oq = 0
      case neg =>
        have z : (oq == 0) = false := by simp [hl]
        clear hr4
        go_wp2
        go_meet
        exact ⟨rfl, BA.out⟩
      obtain ⟨g1, g2, g3⟩ := pick_good EQO.out hl
      subst hl
      have SFC := Lib.hid (implSchedFault_any _ _ Q4 d4 ob zs v9 (by have := LO.out; omega) hr4)
      rw [g1] at SFC
      have el : ((zs.length : Int) != (xs3.length : Int)) = false := by rw [g3]; simp
      have el2 : (zs.length != xs3.length) = false := by rw [g3]; simp
      have eg0 : ¬ ob < b3 := by omega
      have eg : decide (ob < b3) = false := decide_eq_false eg0
      have z : ((0 : Int) != 0) = false := by simp
      have z2 : ((0 : Int) == 0) = true := by simp
      clear hr4 g1 g2 g3 u0 u1 v0 v1 v2 v3 v4
      obtain ⟨_, _, ⟨u0, u1⟩, ⟨v0, v1, v2, v3, v4⟩, _, _, _, _, _, _, _, _, _, _⟩ := F.out v9 BA.out
      go_wp2_with fail
      refine SFC.out.mono ?_
      rintro e9 ve ⟨rfl, hb⟩
      have BE := Lib.hid (BA.out.trans (hb.mono BA.out.size))
      clear hb SFC u0 u1 v0 v1 v2 v3 v4
      obtain ⟨_, _, ⟨u0, u1⟩, ⟨v0, v1, v2, v3, v4⟩, _, _, _, _, _, _, _, _, _, _⟩ := F.out ve BE.out
      go_wp2
      go_meet
      exact ⟨rfl, BE.out⟩
    case rest =>
    rename World => va
    obtain ⟨rfl, hb⟩ := hcut
    have BB := Lib.hid hb
    clear hb BA
    by_cases hp : pq = 0
    case neg =>
      have z : (pq != 0) = true := by simp [hp]
      have e0 : ids = [] := by have := picks5_bad (b := b1) (xs := xs1) (n := n1) (by rw [EQP.out]; exact hp); rw [EQP.out] at this; exact this
      have e1 : ids.length = 0 := by rw [e0]; rfl
      have e2' : ((ids.length : Int) == 0) = true := by rw [e1]; rfl
      have e3 : (ids.length == 0) = true := by rw [e1]; rfl
      have E1 := Lib.hid e1
      obtain ⟨_, ⟨u0, u1, u2, u3⟩, _, _, _, _, _, _, _, _, _, _, _, bw⟩ := F.out va BB.out
      have BW := Lib.hid bw
      clear bw e0 e1
      go_wp2
      go_ret
      exact ⟨rfl, BW.out⟩
    obtain ⟨s0, n0, n200⟩ := picks5_in (b := b1) (xs := xs1) (n := n1) (by rw [EQP.out]; exact hp)
    subst hp
    obtain ⟨m, rfl⟩ : ∃ m : Nat, n1 = (m : Int) := ⟨n1.toNat, by omega⟩
    have m200 : m ≤ 200 := by omega
    have S0 := Lib.hid s0
    clear s0 n0 n200
    obtain ⟨_, ⟨u0, u1, u2, u3⟩, _, _, _, _, _, _, _, _, _, _, _, bw⟩ := F.out va BB.out
    have LA : Hid (Calls Try.prog 51 #[.slice A k c, .int .i64 2, .int .i64 ((m : Int) + 1)] va (AtD (m + 1) va)) := lwAt_any 0 w.heap.size A k c b 2 (m + 1) va hk (by omega) (by omega) (by omega) HBY.out (CD.out va bw)
    have z : ((0 : Int) != 0) = false := by simp
    clear bw
    go_wp2_with fail
    refine LA.out.mono ?_
    rintro e9 vb ⟨r, rfl, hr, hb⟩
    have BC := Lib.hid (BB.out.trans (hb.mono BB.out.size))
    have hrm : r ≤ m := by omega
    clear hb LA hr u0 u1 u2 u3 BB
    obtain ⟨g1, g2, g3, g4⟩ := picks5_parts (b := b1) (xs := xs1) (n := (m : Int)) (cut := (r : Int)) (by rw [EQP.out]) ⟨by omega, by omega⟩
    obtain ⟨aq, ids1, ab, az, ha⟩ : ∃ k0 k1 k2 k3, picks5 b1 xs1 (r : Int) = (k0, k1, k2, k3) := ⟨_, _, _, _, rfl⟩
    rw [EQP.out] at g1 g3 g4
    rw [ha] at g2 g3 g4
    obtain rfl : aq = 0 := g2
    obtain ⟨ids2, hi2⟩ : ∃ l, l = (picks5 ab az ((m : Int) - (r : Int))).2.1 := ⟨_, rfl⟩
    have g3 : picks5 ab az ((m : Int) - (r : Int)) = (0, (picks5 ab az ((m : Int) - (r : Int))).2.1, pb, ps) := g3
    have g4 : ids1 ++ (picks5 ab az ((m : Int) - (r : Int))).2.1 = ids := g4
    have E3 : Hid (picks5 ab az ((m : Int) - (r : Int)) = (0, ids2, pb, ps)) := by show _ = _; rw [hi2]; exact g3
    have E4 : Hid (ids1 ++ ids2 = ids) := by show _ = _; rw [hi2]; exact g4
    have LA1 : Hid (ids1.length ≤ 200 ∧ az.length ≤ 6) := by have := picks5_len b1 xs1 (r : Int); rw [ha] at this; exact this
    have LA2 : Hid (ids2.length ≤ 200) := by have := picks5_len ab az ((m : Int) - (r : Int)); rw [E3.out] at this; exact this.1
    obtain ⟨h1, h2⟩ := picks5_base (b := b1) (xs := xs1) (n := (m : Int)) (by rw [EQP.out])
    obtain ⟨ms, hms⟩ : ∃ l, l = xs1.map (sh5 b1) := ⟨_, rfl⟩
    rw [← hms] at h1 h2
    rw [EQP.out] at h2
    obtain ⟨cq, ids3, cb, cs, hc3⟩ : ∃ k0 k1 k2 k3, picks5 0 ms (m : Int) = (k0, k1, k2, k3) := ⟨_, _, _, _, rfl⟩
    rw [hc3] at h1 h2
    obtain rfl : cq = 0 := h1
    obtain rfl : ids3 = ids := h2
    have RBQ : Hid (rebase5 b1 xs1 = (0, 0, b1, 0, ms)) := by show _ = _; unfold rebase5; rw [if_neg (fun q => q S0.out), hms]
    have LM : Hid (cs.length ≤ 6 ∧ ms.length ≤ 6) := by have := picks5_len 0 ms (m : Int); rw [hc3] at this; exact ⟨this.2, by rw [hms, List.length_map]; exact hn1⟩
    have EA := Lib.hid ha; have EC := Lib.hid hc3; have G1 := Lib.hid g1
    clear ha g3 g4 hc3 g1 hms hi2
    have wr1 : IntKind.i64.wrap ((m : Int) - (r : Int)) = (m : Int) - (r : Int) := IntWalk.i64_in _ (by omega)
    obtain ⟨⟨s0, s1⟩, _, _, _, _, _, hr1, _, _, _, _, _, _, _⟩ := F.out vb BC.out
    have IP0 := implPicksOf_any _ _ B1 c1 b1 xs1 (r : Int) vb (by omega) hr1
    rw [EA.out] at IP0
    clear hr1
    have DD := Lib.hid (IP0)
    clear IP0
    go_wp2_with fail
    refine DD.out.mono ?_
    rintro e y1w ⟨I7, e7, Q7, d7, rfl, hoi, ho, hbl⟩
    dsimp only
    clear DD
    have BSy1w : Hid (Below vb.heap.size vb y1w) := hbl
    have Uy1w : Hid (Below vb.heap.size vb y1w) := BSy1w.out
    clear hbl
    have OI7 := Lib.hid hoi
    clear hoi
    have OQ7 := Lib.hid ho
    clear ho
    clear s0 s1
    obtain ⟨y2w, hy2w⟩ : ∃ V, V = y1w.alloc (.cells #[.int .i64 0, .slice I7 ids1.length e7, .int .i64 ab, .slice Q7 az.length d7] 48) := ⟨_, rfl⟩
    obtain ⟨q7, hq7⟩ : ∃ q, q = y1w.heap.size := ⟨_, rfl⟩
    have hzq7 : y1w.heap.size = q7 := hq7.symm
    have Kq7 : Hid (y2w.heap[q7]? = some (.cells #[.int .i64 0, .slice I7 ids1.length e7, .int .i64 ab, .slice Q7 az.length d7] 48 (0, 0))) := by show _ = _; rw [hy2w, ← hzq7]; exact heap_alloc_new y1w _
    have BSy2w : Hid (Below y1w.heap.size y1w y2w) := by rw [hy2w]; exact below_new y1w _
    have Uy2w : Hid (Below vb.heap.size vb y2w) := Uy1w.out.trans (BSy2w.out.mono Uy1w.out.size)
    have HWy2w := Lib.hid hy2w; have HBq7 := Lib.hid hq7
    clear hzq7
    clear hy2w hq7
    go_upto_region 17 with (fail)
    rw [← HWy2w.out, ← HBq7.out]
    clear HWy2w HBq7
    have KK_q7 := Kq7.out
    have s0 := cell_of_row y2w _ 0 _ _ _ KK_q7; have s1 := cell_of_row y2w _ 1 _ _ _ KK_q7; have s2 := cell_of_row y2w _ 2 _ _ _ KK_q7; have s3 := cell_of_row y2w _ 3 _ _ _ KK_q7
    simp at s0 s1 s2 s3
    clear KK_q7
    have IP0 := implPicksOf_any _ _ Q7 d7 ab az ((m : Int) - (r : Int)) y2w (by have := LA1.out; omega) ((OR.sl0 OQ7.out).below BSy2w.out (Nat.le_refl _))
    rw [E3.out] at IP0
    have DD := Lib.hid (IP0)
    clear IP0
    go_wp2_with fail
    refine DD.out.mono ?_
    rintro e y3w ⟨I8, e8, Q8, d8, rfl, hoi, ho, hbl⟩
    dsimp only
    clear DD
    have BSy3w : Hid (Below y2w.heap.size y2w y3w) := hbl
    have Uy3w : Hid (Below vb.heap.size vb y3w) := Uy2w.out.trans (BSy3w.out.mono Uy2w.out.size)
    clear hbl
    have OI8 := Lib.hid hoi
    clear hoi
    have OQ8 := Lib.hid ho
    clear ho
    clear s0 s1 s2 s3
    obtain ⟨y4w, hy4w⟩ : ∃ V, V = y3w.alloc (.cells #[.int .i64 0, .slice I8 ids2.length e8, .int .i64 pb, .slice Q8 ps.length d8] 48) := ⟨_, rfl⟩
    obtain ⟨q8, hq8⟩ : ∃ q, q = y3w.heap.size := ⟨_, rfl⟩
    have hzq8 : y3w.heap.size = q8 := hq8.symm
    have Kq8 : Hid (y4w.heap[q8]? = some (.cells #[.int .i64 0, .slice I8 ids2.length e8, .int .i64 pb, .slice Q8 ps.length d8] 48 (0, 0))) := by show _ = _; rw [hy4w, ← hzq8]; exact heap_alloc_new y3w _
    have BSy4w : Hid (Below y3w.heap.size y3w y4w) := by rw [hy4w]; exact below_new y3w _
    have Uy4w : Hid (Below vb.heap.size vb y4w) := Uy3w.out.trans (BSy4w.out.mono Uy3w.out.size)
    have HWy4w := Lib.hid hy4w; have HBq8 := Lib.hid hq8
    clear hzq8
    clear hy4w hq8
    go_upto_region 18 with (fail)
    rw [← HWy4w.out, ← HBq8.out]
    clear HWy4w HBq8
    obtain ⟨⟨s0, s1⟩, _, _, _, _, _, hr1, _, _, _, _, _, _, _⟩ := F.out y4w (BC.out.trans (Uy4w.out.mono BC.out.size))
    have IP0 := implRebaseSched_any _ _ B1 c1 b1 xs1 y4w (by omega) hr1
    rw [RBQ.out] at IP0
    clear hr1
    have DD := Lib.hid (IP0)
    clear IP0
    go_wp2_with fail
    refine DD.out.mono ?_
    rintro e y5w ⟨Q9, d9, rfl, ho, hbl⟩
    dsimp only
    clear DD
    have BSy5w : Hid (Below y4w.heap.size y4w y5w) := hbl
    have Uy5w : Hid (Below vb.heap.size vb y5w) := Uy4w.out.trans (BSy5w.out.mono Uy4w.out.size)
    clear hbl
    have OQ9 := Lib.hid ho
    clear ho
    clear s0 s1
    have fs3 := fun (q i r b : Int) (A : Option Addr) (k c : Nat) (W : World) => run_sr3 q i r b A k c W
    have IP0 := implPicksOf_any _ _ Q9 d9 0 ms (m : Int) y5w (by have := LM.out; omega) (OR.sl0 OQ9.out)
    rw [EC.out] at IP0
    have DD := Lib.hid (IP0)
    clear IP0
    go_wp2_with fail
    refine DD.out.mono ?_
    rintro e y6w ⟨I9, e9_, Q10, d10, rfl, hoi, ho, hbl⟩
    dsimp only
    clear DD
    have BSy6w : Hid (Below y5w.heap.size y5w y6w) := hbl
    have Uy6w : Hid (Below vb.heap.size vb y6w) := Uy5w.out.trans (BSy6w.out.mono Uy5w.out.size)
    clear hbl
    have OI9 := Lib.hid hoi
    clear hoi
    have OQ10 := Lib.hid ho
    clear ho
    clear fs3
    obtain ⟨y7w, hy7w⟩ : ∃ V, V = y6w.alloc (.cells #[.int .i64 0, .slice I9 ids3.length e9_, .int .i64 cb, .slice Q10 cs.length d10] 48) := ⟨_, rfl⟩
    obtain ⟨q9, hq9⟩ : ∃ q, q = y6w.heap.size := ⟨_, rfl⟩
    have hzq9 : y6w.heap.size = q9 := hq9.symm
    have Kq9 : Hid (y7w.heap[q9]? = some (.cells #[.int .i64 0, .slice I9 ids3.length e9_, .int .i64 cb, .slice Q10 cs.length d10] 48 (0, 0))) := by show _ = _; rw [hy7w, ← hzq9]; exact heap_alloc_new y6w _
    have BSy7w : Hid (Below y6w.heap.size y6w y7w) := by rw [hy7w]; exact below_new y6w _
    have Uy7w : Hid (Below vb.heap.size vb y7w) := Uy6w.out.trans (BSy7w.out.mono Uy6w.out.size)
    have HWy7w := Lib.hid hy7w; have HBq9 := Lib.hid hq9
    clear hzq9
    clear hy7w hq9
    go_upto_region 19 with (fail)
    rw [← HWy7w.out, ← HBq9.out]
    clear HWy7w HBq9
    obtain ⟨wz, hwz⟩ : ∃ V, V = y7w := ⟨_, rfl⟩
    have F2 : Hid (∀ W, Below wz.heap.size wz W → (W.cell? ⟨q7, 0, none⟩ = some (.int .i64 0) ∧ W.cell? ⟨q7, 1, none⟩ = some (.slice I7 ids1.length e7) ∧ W.cell? ⟨q7, 2, none⟩ = some (.int .i64 ab) ∧ W.cell? ⟨q7, 3, none⟩ = some (.slice Q7 az.length d7)) ∧ (W.cell? ⟨q8, 0, none⟩ = some (.int .i64 0) ∧ W.cell? ⟨q8, 1, none⟩ = some (.slice I8 ids2.length e8) ∧ W.cell? ⟨q8, 2, none⟩ = some (.int .i64 pb) ∧ W.cell? ⟨q8, 3, none⟩ = some (.slice Q8 ps.length d8)) ∧ (W.cell? ⟨q9, 0, none⟩ = some (.int .i64 0) ∧ W.cell? ⟨q9, 1, none⟩ = some (.slice I9 ids3.length e9_) ∧ W.cell? ⟨q9, 2, none⟩ = some (.int .i64 cb) ∧ W.cell? ⟨q9, 3, none⟩ = some (.slice Q10 cs.length d10)) ∧ Sl W 0 wz.heap.size I7 (ids1.length) (fun j => .int .i64 (gi ids1 j)) ∧ Sl W 0 wz.heap.size Q7 (az.length * 3) (fun j => .int .i64 (gi (fl az) j)) ∧ Sl W 0 wz.heap.size I8 (ids2.length) (fun j => .int .i64 (gi ids2 j)) ∧ Sl W 0 wz.heap.size Q8 (ps.length * 3) (fun j => .int .i64 (gi (fl ps) j)) ∧ Sl W 0 wz.heap.size Q9 (ms.length * 3) (fun j => .int .i64 (gi (fl ms) j)) ∧ Sl W 0 wz.heap.size I9 (ids3.length) (fun j => .int .i64 (gi ids3 j)) ∧ Sl W 0 wz.heap.size Q10 (cs.length * 3) (fun j => .int .i64 (gi (fl cs) j)) ∧ Below vb.heap.size vb W) := fun W hW => by
      rw [hwz] at hW ⊢
      have sy1w := BSy1w.out.size
      have sy2w := BSy2w.out.size
      have sy3w := BSy3w.out.size
      have sy4w := BSy4w.out.size
      have sy5w := BSy5w.out.size
      have sy6w := BSy6w.out.size
      have sy7w := BSy7w.out.size
      have fy6w : Below y6w.heap.size y6w W := BSy7w.out.trans (hW.mono sy7w)
      have fy5w : Below y5w.heap.size y5w W := BSy6w.out.trans (fy6w.mono sy6w)
      have fy4w : Below y4w.heap.size y4w W := BSy5w.out.trans (fy5w.mono sy5w)
      have fy3w : Below y3w.heap.size y3w W := BSy4w.out.trans (fy4w.mono sy4w)
      have fy2w : Below y2w.heap.size y2w W := BSy3w.out.trans (fy3w.mono sy3w)
      have fy1w : Below y1w.heap.size y1w W := BSy2w.out.trans (fy2w.mono sy2w)
      have fvb : Below vb.heap.size vb W := BSy1w.out.trans (fy1w.mono sy1w)
      have jq7 := (fy2w.block q7 (Array.getElem?_eq_some_iff.1 Kq7.out).1).trans Kq7.out
      have jq8 := (fy4w.block q8 (Array.getElem?_eq_some_iff.1 Kq8.out).1).trans Kq8.out
      have jq9 := (hW.block q9 (Array.getElem?_eq_some_iff.1 Kq9.out).1).trans Kq9.out
      have gI7 := ((OR.sl0 OI7.out).below fy1w (Nat.le_refl _)).wide (Nat.zero_le _) (show y1w.heap.size ≤ y7w.heap.size by omega)
      rw [Nat.mul_one] at gI7
      have gQ7 := ((OR.sl0 OQ7.out).below fy1w (Nat.le_refl _)).wide (Nat.zero_le _) (show y1w.heap.size ≤ y7w.heap.size by omega)
      have gI8 := ((OR.sl0 OI8.out).below fy3w (Nat.le_refl _)).wide (Nat.zero_le _) (show y3w.heap.size ≤ y7w.heap.size by omega)
      rw [Nat.mul_one] at gI8
      have gQ8 := ((OR.sl0 OQ8.out).below fy3w (Nat.le_refl _)).wide (Nat.zero_le _) (show y3w.heap.size ≤ y7w.heap.size by omega)
      have gQ9 := ((OR.sl0 OQ9.out).below fy5w (Nat.le_refl _)).wide (Nat.zero_le _) (show y5w.heap.size ≤ y7w.heap.size by omega)
      have gI9 := ((OR.sl0 OI9.out).below fy6w (Nat.le_refl _)).wide (Nat.zero_le _) (show y6w.heap.size ≤ y7w.heap.size by omega)
      rw [Nat.mul_one] at gI9
      have gQ10 := ((OR.sl0 OQ10.out).below fy6w (Nat.le_refl _)).wide (Nat.zero_le _) (show y6w.heap.size ≤ y7w.heap.size by omega)
      exact ⟨⟨cell_of_row W _ 0 _ _ _ jq7, cell_of_row W _ 1 _ _ _ jq7, cell_of_row W _ 2 _ _ _ jq7, cell_of_row W _ 3 _ _ _ jq7⟩, ⟨cell_of_row W _ 0 _ _ _ jq8, cell_of_row W _ 1 _ _ _ jq8, cell_of_row W _ 2 _ _ _ jq8, cell_of_row W _ 3 _ _ _ jq8⟩, ⟨cell_of_row W _ 0 _ _ _ jq9, cell_of_row W _ 1 _ _ _ jq9, cell_of_row W _ 2 _ _ _ jq9, cell_of_row W _ 3 _ _ _ jq9⟩, gI7, gQ7, gI8, gQ8, gQ9, gI9, gQ10, fvb⟩
    clear BSy1w Uy1w BSy2w Uy2w BSy3w Uy3w BSy4w Uy4w BSy5w Uy5w BSy6w Uy6w BSy7w Uy7w Kq7 Kq8 Kq9 OI7 OQ7 OI8 OQ8 OQ9 OI9 OQ10
    rw [← hwz]
    clear hwz
    have BYZ : Hid (Below wy.heap.size wy wz) := by
      obtain ⟨_, _, _, _, _, _, _, _, _, _, bz⟩ := F2.out wz (Below.refl _ _)
      exact BC.out.trans (bz.mono BC.out.size)
    have K19 : Hid (∀ W, Below wz.heap.size wz W → ((W.cell? ⟨q2, 0, none⟩ = some (.int .i64 0) ∧ W.cell? ⟨q2, 1, none⟩ = some (.slice I2 ids3.length e2) ∧ W.cell? ⟨q2, 2, none⟩ = some (.int .i64 pb) ∧ W.cell? ⟨q2, 3, none⟩ = some (.slice Q2 ps.length d2)) ∧ (W.cell? ⟨q7, 0, none⟩ = some (.int .i64 0) ∧ W.cell? ⟨q7, 1, none⟩ = some (.slice I7 ids1.length e7) ∧ W.cell? ⟨q7, 2, none⟩ = some (.int .i64 ab) ∧ W.cell? ⟨q7, 3, none⟩ = some (.slice Q7 az.length d7)) ∧ (W.cell? ⟨q8, 0, none⟩ = some (.int .i64 0) ∧ W.cell? ⟨q8, 1, none⟩ = some (.slice I8 ids2.length e8) ∧ W.cell? ⟨q8, 2, none⟩ = some (.int .i64 pb) ∧ W.cell? ⟨q8, 3, none⟩ = some (.slice Q8 ps.length d8)) ∧ (W.cell? ⟨q9, 0, none⟩ = some (.int .i64 0) ∧ W.cell? ⟨q9, 1, none⟩ = some (.slice I9 ids3.length e9_) ∧ W.cell? ⟨q9, 2, none⟩ = some (.int .i64 cb) ∧ W.cell? ⟨q9, 3, none⟩ = some (.slice Q10 cs.length d10))) ∧ Below wz.heap.size wz W) := fun W hW => by
      obtain ⟨_, ⟨s0, s1, s2, s3⟩, _, _, _, _, _, _, _, _, _, _, _, _⟩ := F.out W (BYZ.out.trans (hW.mono BYZ.out.size))
      obtain ⟨a, b, c, _, _, _, _, _, _, _, _⟩ := F2.out W hW
      exact ⟨⟨⟨s0, s1, s2, s3⟩, a, b, c⟩, hW⟩
    have SF9 : Hid (∀ W, Below wz.heap.size wz W → Calls Try.prog 41 #[.agg #[.int .i64 pb, .slice Q2 ps.length d2]] W fun e w' => e = .returned (.int .i64 0) ∧ Below wz.heap.size wz w') := fun W hW => by
      obtain ⟨_, _, _, _, _, _, _, _, hr2, _, _, _, _, _⟩ := F.out W (BYZ.out.trans (hW.mono BYZ.out.size))
      have := implSchedFault_any _ _ Q2 d2 pb ps W (by have := LP.out; omega) hr2
      rw [show sf5 pb ps = 0 from G1.out] at this
      exact this.mono fun e w' hh => ⟨hh.1, hW.trans (hh.2.mono hW.size)⟩
    have LN9 : Hid (∀ W A2 k2, Below wz.heap.size wz W → Sl W wz.heap.size W.heap.size A2 (ids1.length + ids2.length) (fun j => .int .i64 (gi (ids1 ++ ids2) j)) → Calls Try.prog 48 #[.slice A2 (ids1.length + ids2.length) k2, .slice I2 ids3.length e2] W fun e w' => e = .returned (.bool true) ∧ Below wz.heap.size wz w') := fun W A2 k2 hW hn => by
      obtain ⟨_, _, _, _, _, _, _, h2, _, _, _, _, _, _⟩ := F.out W (BYZ.out.trans (hW.mono BYZ.out.size))
      have := lwNums_any _ _ _ _ A2 I2 (ids1 ++ ids2) ids3 _ _ k2 e2 W (by have := LA1.out; have := LA2.out; omega) (by simp) rfl hn h2
      rw [decide_eq_true E4.out] at this
      exact this.mono fun e w' hh => ⟨hh.1, hW.trans (hh.2.mono hW.size)⟩
    have SM9 : Hid (∀ W, Below wz.heap.size wz W → Calls Try.prog 36 #[.agg #[.int .i64 pb, .slice Q8 ps.length d8], .agg #[.int .i64 pb, .slice Q2 ps.length d2]] W fun e w' => e = .returned (.bool true) ∧ Below wz.heap.size wz w') := fun W hW => by
      obtain ⟨_, _, _, _, _, _, _, _, h2, _, _, _, _, _⟩ := F.out W (BYZ.out.trans (hW.mono BYZ.out.size))
      obtain ⟨_, _, _, _, _, _, h8, _, _, _, _⟩ := F2.out W hW
      have := implSameScheds_any _ _ _ _ Q8 d8 Q2 d2 pb pb ps ps W (by have := LP.out; omega) h8 h2
      rw [decide_eq_true ⟨rfl, rfl⟩] at this
      exact this.mono fun e w' hh => ⟨hh.1, hW.trans (hh.2.mono hW.size)⟩
    have LM9 : Hid (∀ W, Below wz.heap.size wz W → Calls Try.prog 48 #[.slice I9 ids3.length e9_, .slice I2 ids3.length e2] W fun e w' => e = .returned (.bool true) ∧ Below wz.heap.size wz w') := fun W hW => by
      obtain ⟨_, _, _, _, _, _, _, h2, _, _, _, _, _, _⟩ := F.out W (BYZ.out.trans (hW.mono BYZ.out.size))
      obtain ⟨_, _, _, _, _, _, _, _, h9, _, _⟩ := F2.out W hW
      have := lwNums_any _ _ _ _ I9 I2 ids3 ids3 _ _ e9_ e2 W (by have := LP.out; omega) rfl rfl h9 h2
      rw [decide_eq_true rfl] at this
      exact this.mono fun e w' hh => ⟨hh.1, hW.trans (hh.2.mono hW.size)⟩
    have FIN : Hid (∀ W, Below wz.heap.size wz W → Below w.heap.size w W) := fun W hW => by
      obtain ⟨_, _, _, _, _, _, _, _, _, _, _, _, _, bw⟩ := F.out W (BYZ.out.trans (hW.mono BYZ.out.size))
      exact bw
    have S7 : Hid (∀ W, Below wz.heap.size wz W → Sl W 0 wz.heap.size I7 ids1.length (fun j => .int .i64 (gi ids1 j))) := fun W hW => by
      obtain ⟨_, _, _, h7, _, _, _, _, _, _, _⟩ := F2.out W hW
      exact h7
    have S8 : Hid (∀ W, Below wz.heap.size wz W → Sl W 0 wz.heap.size I8 ids2.length (fun j => .int .i64 (gi ids2 j))) := fun W hW => by
      obtain ⟨_, _, _, _, _, h8, _, _, _, _, _⟩ := F2.out W hW
      exact h8
    have L1 : ids1.length ≤ 200 := LA1.out.1
    have L2 : ids2.length ≤ 200 := LA2.out
    have z2 : ((0 : Int) == 0) = true := by simp
    obtain ⟨i0, hi0, hz0, hz1, hz2⟩ := info_parts info_int64P
    clear F F2 G1 E3 E4 EC EA EQP EQO EQR RBQ LP LO LR LM LA1 LA2 S0 hn1 hn3 hn5 wr1
    refine wp_region_held_drew (S := fun W => ((W.cell? ⟨q2, 0, none⟩ = some (.int .i64 0) ∧ W.cell? ⟨q2, 1, none⟩ = some (.slice I2 ids3.length e2) ∧ W.cell? ⟨q2, 2, none⟩ = some (.int .i64 pb) ∧ W.cell? ⟨q2, 3, none⟩ = some (.slice Q2 ps.length d2)) ∧ (W.cell? ⟨q7, 0, none⟩ = some (.int .i64 0) ∧ W.cell? ⟨q7, 1, none⟩ = some (.slice I7 ids1.length e7) ∧ W.cell? ⟨q7, 2, none⟩ = some (.int .i64 ab) ∧ W.cell? ⟨q7, 3, none⟩ = some (.slice Q7 az.length d7)) ∧ (W.cell? ⟨q8, 0, none⟩ = some (.int .i64 0) ∧ W.cell? ⟨q8, 1, none⟩ = some (.slice I8 ids2.length e8) ∧ W.cell? ⟨q8, 2, none⟩ = some (.int .i64 pb) ∧ W.cell? ⟨q8, 3, none⟩ = some (.slice Q8 ps.length d8)) ∧ (W.cell? ⟨q9, 0, none⟩ = some (.int .i64 0) ∧ W.cell? ⟨q9, 1, none⟩ = some (.slice I9 ids3.length e9_) ∧ W.cell? ⟨q9, 2, none⟩ = some (.int .i64 cb) ∧ W.cell? ⟨q9, 3, none⟩ = some (.slice Q10 cs.length d10))) ∧ Below wz.heap.size wz W) (by kernel_rfl) (K19.out _ (Below.drew (Below.refl _ _))) (fun hHeld => ?_)
    obtain ⟨v0, hv0⟩ : ∃ v0, v0 = wz.drew := ⟨_, rfl⟩
    have BL0 : Hid (Below wz.heap.size wz v0) := by rw [hv0]; exact Below.drew (Below.refl _ _)
    rw [← hv0] at hHeld ⊢
    clear hv0
    refine wpAnyH_take (i := 0) (oi := _) (v := ?_) rfl (by kernel_rfl) (by kernel_rfl) (by kernel_rfl) (fun _ _ _ h => h) (Or.inl ⟨by kernel_rfl, ?_⟩) hHeld ?_
    rotate_left
    · (intro w hSw; (try dsimp only at hSw); go_simp; try with_reducible rfl)
    try simp only [Act.put, List.getElem_toArray, List.getElem_cons_succ, List.getElem_cons_zero, List.setIfInBounds_toArray, List.set_cons_zero, List.set_cons_succ]
    refine wpAnyH_take (i := 1) (oi := _) (v := ?_) rfl (by kernel_rfl) (by kernel_rfl) (by kernel_rfl) (fun _ _ _ h => h) (Or.inl ⟨by kernel_rfl, ?_⟩) hHeld ?_
    rotate_left
    · (intro w hSw; (try dsimp only at hSw); go_simp; try with_reducible rfl)
    try simp only [Act.put, List.getElem_toArray, List.getElem_cons_succ, List.getElem_cons_zero, List.setIfInBounds_toArray, List.set_cons_zero, List.set_cons_succ]
    refine wpAnyH_ready (rs := [2]) (by kernel_rfl) (by simp) ?_
    refine AllReadyH.cons (o := _) rfl (fun K0 hK0 => ?_) AllReadyH.nil
    go_simp
    refine (SF9.out _ (by go_split_ands; assumption)).mono ?_
    rintro e9 wA ⟨rfl, hwA⟩
    go_wp2_with fail
    skip
    refine hK0.out _ _ (K19.out _ hwA) (fun hHeld => ?_)
    clear hK0 K0
    try simp only [Act.put, List.getElem_toArray, List.getElem_cons_succ, List.getElem_cons_zero, List.setIfInBounds_toArray, List.set_cons_zero, List.set_cons_succ]
    refine wpAnyH_take (i := 3) (oi := _) (v := ?_) rfl (by kernel_rfl) (by kernel_rfl) (by kernel_rfl) (fun _ _ _ h => h) (Or.inl ⟨by kernel_rfl, ?_⟩) hHeld ?_
    rotate_left
    · (intro w hSw; (try dsimp only at hSw); go_simp; try with_reducible rfl)
    try simp only [Act.put, List.getElem_toArray, List.getElem_cons_succ, List.getElem_cons_zero, List.setIfInBounds_toArray, List.set_cons_zero, List.set_cons_succ]
    refine wpAnyH_take (i := 4) (oi := _) (v := ?_) rfl (by kernel_rfl) (by kernel_rfl) (by kernel_rfl) (fun _ _ _ h => h) (Or.inl ⟨by kernel_rfl, ?_⟩) hHeld ?_
    rotate_left
    · (intro w hSw; (try dsimp only at hSw); go_simp; try with_reducible rfl)
    try simp only [Act.put, List.getElem_toArray, List.getElem_cons_succ, List.getElem_cons_zero, List.setIfInBounds_toArray, List.set_cons_zero, List.set_cons_succ]
    refine wpAnyH_take (i := 6) (oi := _) (v := ?_) rfl (by kernel_rfl) (by kernel_rfl) (by kernel_rfl) (fun _ _ _ h => h) (Or.inl ⟨by kernel_rfl, ?_⟩) hHeld ?_
    rotate_left
    · (intro w hSw; (try dsimp only at hSw); go_simp; try with_reducible rfl)
    try simp only [Act.put, List.getElem_toArray, List.getElem_cons_succ, List.getElem_cons_zero, List.setIfInBounds_toArray, List.set_cons_zero, List.set_cons_succ]
    refine wpAnyH_take (i := 7) (oi := _) (v := ?_) rfl (by kernel_rfl) (by kernel_rfl) (by kernel_rfl) (fun _ _ _ h => h) (Or.inl ⟨by kernel_rfl, ?_⟩) hHeld ?_
    rotate_left
    · (intro w hSw; (try dsimp only at hSw); go_simp; try with_reducible rfl)
    try simp only [Act.put, List.getElem_toArray, List.getElem_cons_succ, List.getElem_cons_zero, List.setIfInBounds_toArray, List.set_cons_zero, List.set_cons_succ]
    refine wpAnyH_take (i := 9) (oi := _) (v := ?_) rfl (by kernel_rfl) (by kernel_rfl) (by kernel_rfl) (fun _ _ _ h => h) (Or.inl ⟨by kernel_rfl, ?_⟩) hHeld ?_
    rotate_left
    · (intro w hSw; (try dsimp only at hSw); go_simp; try with_reducible rfl)
    try simp only [Act.put, List.getElem_toArray, List.getElem_cons_succ, List.getElem_cons_zero, List.setIfInBounds_toArray, List.set_cons_zero, List.set_cons_succ]
    refine wpAnyH_take (i := 10) (oi := _) (v := ?_) rfl (by kernel_rfl) (by kernel_rfl) (by kernel_rfl) (fun _ _ _ h => h) (Or.inl ⟨by kernel_rfl, ?_⟩) hHeld ?_
    rotate_left
    · (intro w hSw; (try dsimp only at hSw); go_simp; try with_reducible rfl)
    try simp only [Act.put, List.getElem_toArray, List.getElem_cons_succ, List.getElem_cons_zero, List.setIfInBounds_toArray, List.set_cons_zero, List.set_cons_succ]
    refine wpAnyH_take (i := 12) (oi := _) (v := ?_) rfl (by kernel_rfl) (by kernel_rfl) (by kernel_rfl) (fun _ _ _ h => h) (Or.inl ⟨by kernel_rfl, ?_⟩) hHeld ?_
    rotate_left
    · (intro w hSw; (try dsimp only at hSw); go_simp; try with_reducible rfl)
    try simp only [Act.put, List.getElem_toArray, List.getElem_cons_succ, List.getElem_cons_zero, List.setIfInBounds_toArray, List.set_cons_zero, List.set_cons_succ]
    refine wpAnyH_take (i := 13) (oi := _) (v := ?_) rfl (by kernel_rfl) (by kernel_rfl) (by kernel_rfl) (fun _ _ _ h => h) (Or.inl ⟨by kernel_rfl, ?_⟩) hHeld ?_
    rotate_left
    · (intro w hSw; (try dsimp only at hSw); go_simp; try with_reducible rfl)
    try simp only [Act.put, List.getElem_toArray, List.getElem_cons_succ, List.getElem_cons_zero, List.setIfInBounds_toArray, List.set_cons_zero, List.set_cons_succ]
    refine wpAnyH_ready (rs := [5]) (by kernel_rfl) (by simp) ?_
    refine AllReadyH.cons (o := _) rfl (fun K0 hK0 => ?_) AllReadyH.nil
    go_simp
    have BZwA := Lib.hid hwA
    have zA : wz.heap.size ≤ wA.heap.size := BZwA.out.size
    have BZwB : Hid (Below wz.heap.size wz (wA.alloc (.cells #[] 2))) := BZwA.out.alloc zA _
    have OB : Hid (OR 2 1 (wA.alloc (.cells #[] 2)) wz.heap.size (some ⟨wA.heap.size, 0, none⟩) 0 0 []) := OR.empty wA zA
    have ZB : Hid (wz.heap.size ≤ (wA.alloc (.cells #[] 2)).heap.size) := by show _ ≤ _; simp; omega
    have S7B := Lib.hid (S7.out _ BZwB.out)
    refine hK0.out _ _ (K19.out _ BZwB.out) (fun hHeld => ?_)
    clear hK0 K0
    try simp only [Act.put, List.getElem_toArray, List.getElem_cons_succ, List.getElem_cons_zero, List.setIfInBounds_toArray, List.set_cons_zero, List.set_cons_succ]
    refine wpAnyH_ready (rs := [8]) (by kernel_rfl) (by simp) ?_
    refine AllReadyH.cons (o := _) rfl (fun K0 hK0 => ?_) AllReadyH.nil
    rw [if_pos (by kernel_rfl)]
    refine wp_append_nums (.tmp 147) (.tmp 149) 46 rfl wz.heap.size 2 i0 Try.underlying46 hi0 hz0 hz1 hz2 (.slice (some ⟨wA.heap.size, 0, none⟩) 0 0) (0) [] rfl OB.out 0 wz.heap.size I7 ids1.length e7 ids1 rfl rfl S7B.out (by omega) ZB.out ?_
    intro v_ wC hown hg
    simp only [Nat.zero_add, List.nil_append] at hown
    obtain ⟨A1, k1, rfl, ho_⟩ := or_of6 hown
    have BZwC := Lib.hid (below_append BZwB.out ZB.out OB.out hg)
    have O1 := Lib.hid ho_
    have ZC : Hid (wz.heap.size ≤ wC.heap.size) := BZwC.out.size
    clear hown hg ho_
    refine hK0.out _ _ (K19.out _ BZwC.out) (fun hHeld => ?_)
    clear hK0 K0
    try simp only [Act.put, List.getElem_toArray, List.getElem_cons_succ, List.getElem_cons_zero, List.setIfInBounds_toArray, List.set_cons_zero, List.set_cons_succ]
    refine wpAnyH_ready (rs := [11]) (by kernel_rfl) (by simp) ?_
    refine AllReadyH.cons (o := _) rfl (fun K0 hK0 => ?_) AllReadyH.nil
    rw [if_pos (by kernel_rfl)]
    refine wp_append_nums (.tmp 150) (.tmp 152) 46 rfl wz.heap.size 2 i0 Try.underlying46 hi0 hz0 hz1 hz2 (.slice A1 ids1.length k1) (ids1.length) ids1 rfl O1.out 0 wz.heap.size I8 ids2.length e8 ids2 rfl rfl (Lib.hid (S8.out _ BZwC.out)).out (by omega) ZC.out ?_
    intro v_ wD hown hg
    obtain ⟨A2, k2, rfl, ho_⟩ := or_of6 hown
    have BZwD := Lib.hid (below_append BZwC.out ZC.out O1.out hg)
    have O2 := Lib.hid ho_
    have ZD : Hid (wz.heap.size ≤ wD.heap.size) := BZwD.out.size
    clear hown hg ho_
    refine hK0.out _ _ (K19.out _ BZwD.out) (fun hHeld => ?_)
    clear hK0 K0
    try simp only [Act.put, List.getElem_toArray, List.getElem_cons_succ, List.getElem_cons_zero, List.setIfInBounds_toArray, List.set_cons_zero, List.set_cons_succ]
    refine wpAnyH_ready (rs := [14]) (by kernel_rfl) (by simp) ?_
    refine AllReadyH.cons (o := _) rfl (fun K0 hK0 => ?_) AllReadyH.nil
    go_simp
    have NU : Sl wD wz.heap.size wD.heap.size A2 (ids1.length + ids2.length) (fun j => .int .i64 (gi (ids1 ++ ids2) j)) := by have := OR.sl0 O2.out; rwa [Nat.mul_one] at this
    refine (LN9.out _ _ _ BZwD.out NU).mono ?_
    rintro e9 wE ⟨rfl, hwE⟩
    go_wp2_with fail
    skip
    refine hK0.out _ _ (K19.out _ hwE) (fun hHeld => ?_)
    clear hK0 K0
    try simp only [Act.put, List.getElem_toArray, List.getElem_cons_succ, List.getElem_cons_zero, List.setIfInBounds_toArray, List.set_cons_zero, List.set_cons_succ]
    refine wpAnyH_take (i := 15) (oi := _) (v := ?_) rfl (by kernel_rfl) (by kernel_rfl) (by kernel_rfl) (fun _ _ _ h => h) (Or.inl ⟨by kernel_rfl, ?_⟩) hHeld ?_
    rotate_left
    · (intro w hSw; (try dsimp only at hSw); go_simp; try with_reducible rfl)
    try simp only [Act.put, List.getElem_toArray, List.getElem_cons_succ, List.getElem_cons_zero, List.setIfInBounds_toArray, List.set_cons_zero, List.set_cons_succ]
    refine wpAnyH_take (i := 16) (oi := _) (v := ?_) rfl (by kernel_rfl) (by kernel_rfl) (by kernel_rfl) (fun _ _ _ h => h) (Or.inl ⟨by kernel_rfl, ?_⟩) hHeld ?_
    rotate_left
    · (intro w hSw; (try dsimp only at hSw); go_simp; try with_reducible rfl)
    try simp only [Act.put, List.getElem_toArray, List.getElem_cons_succ, List.getElem_cons_zero, List.setIfInBounds_toArray, List.set_cons_zero, List.set_cons_succ]
    refine wpAnyH_take (i := 17) (oi := _) (v := ?_) rfl (by kernel_rfl) (by kernel_rfl) (by kernel_rfl) (fun _ _ _ h => h) (Or.inl ⟨by kernel_rfl, ?_⟩) hHeld ?_
    rotate_left
    · (intro w hSw; (try dsimp only at hSw); go_simp; try with_reducible rfl)
    try simp only [Act.put, List.getElem_toArray, List.getElem_cons_succ, List.getElem_cons_zero, List.setIfInBounds_toArray, List.set_cons_zero, List.set_cons_succ]
    refine wpAnyH_take (i := 18) (oi := _) (v := ?_) rfl (by kernel_rfl) (by kernel_rfl) (by kernel_rfl) (fun _ _ _ h => h) (Or.inl ⟨by kernel_rfl, ?_⟩) hHeld ?_
    rotate_left
    · (intro w hSw; (try dsimp only at hSw); go_simp; try with_reducible rfl)
    try simp only [Act.put, List.getElem_toArray, List.getElem_cons_succ, List.getElem_cons_zero, List.setIfInBounds_toArray, List.set_cons_zero, List.set_cons_succ]
    refine wpAnyH_take (i := 19) (oi := _) (v := ?_) rfl (by kernel_rfl) (by kernel_rfl) (by kernel_rfl) (fun _ _ _ h => h) (Or.inl ⟨by kernel_rfl, ?_⟩) hHeld ?_
    rotate_left
    · (intro w hSw; (try dsimp only at hSw); go_simp; try with_reducible rfl)
    try simp only [Act.put, List.getElem_toArray, List.getElem_cons_succ, List.getElem_cons_zero, List.setIfInBounds_toArray, List.set_cons_zero, List.set_cons_succ]
    refine wpAnyH_take (i := 20) (oi := _) (v := ?_) rfl (by kernel_rfl) (by kernel_rfl) (by kernel_rfl) (fun _ _ _ h => h) (Or.inl ⟨by kernel_rfl, ?_⟩) hHeld ?_
    rotate_left
    · (intro w hSw; (try dsimp only at hSw); go_simp; try with_reducible rfl)
    try simp only [Act.put, List.getElem_toArray, List.getElem_cons_succ, List.getElem_cons_zero, List.setIfInBounds_toArray, List.set_cons_zero, List.set_cons_succ]
    refine wpAnyH_ready (rs := [21]) (by kernel_rfl) (by simp) ?_
    refine AllReadyH.cons (o := _) rfl (fun K0 hK0 => ?_) AllReadyH.nil
    go_simp
    refine (SM9.out _ (by go_split_ands; assumption)).mono ?_
    rintro e9 wF ⟨rfl, hwF⟩
    go_wp2_with fail
    skip
    refine hK0.out _ _ (K19.out _ hwF) (fun hHeld => ?_)
    clear hK0 K0
    try simp only [Act.put, List.getElem_toArray, List.getElem_cons_succ, List.getElem_cons_zero, List.setIfInBounds_toArray, List.set_cons_zero, List.set_cons_succ]
    refine wpAnyH_take (i := 22) (oi := _) (v := ?_) rfl (by kernel_rfl) (by kernel_rfl) (by kernel_rfl) (fun _ _ _ h => h) (Or.inl ⟨by kernel_rfl, ?_⟩) hHeld ?_
    rotate_left
    · (intro w hSw; (try dsimp only at hSw); go_simp; try with_reducible rfl)
    try simp only [Act.put, List.getElem_toArray, List.getElem_cons_succ, List.getElem_cons_zero, List.setIfInBounds_toArray, List.set_cons_zero, List.set_cons_succ]
    refine wpAnyH_take (i := 23) (oi := _) (v := ?_) rfl (by kernel_rfl) (by kernel_rfl) (by kernel_rfl) (fun _ _ _ h => h) (Or.inl ⟨by kernel_rfl, ?_⟩) hHeld ?_
    rotate_left
    · (intro w hSw; (try dsimp only at hSw); go_simp; try with_reducible rfl)
    try simp only [Act.put, List.getElem_toArray, List.getElem_cons_succ, List.getElem_cons_zero, List.setIfInBounds_toArray, List.set_cons_zero, List.set_cons_succ]
    refine wpAnyH_take (i := 24) (oi := _) (v := ?_) rfl (by kernel_rfl) (by kernel_rfl) (by kernel_rfl) (fun _ _ _ h => h) (Or.inl ⟨by kernel_rfl, ?_⟩) hHeld ?_
    rotate_left
    · (intro w hSw; (try dsimp only at hSw); go_simp; try with_reducible rfl)
    try simp only [Act.put, List.getElem_toArray, List.getElem_cons_succ, List.getElem_cons_zero, List.setIfInBounds_toArray, List.set_cons_zero, List.set_cons_succ]
    refine wpAnyH_take (i := 25) (oi := _) (v := ?_) rfl (by kernel_rfl) (by kernel_rfl) (by kernel_rfl) (fun _ _ _ h => h) (Or.inl ⟨by kernel_rfl, ?_⟩) hHeld ?_
    rotate_left
    · (intro w hSw; (try dsimp only at hSw); go_simp; try with_reducible rfl)
    try simp only [Act.put, List.getElem_toArray, List.getElem_cons_succ, List.getElem_cons_zero, List.setIfInBounds_toArray, List.set_cons_zero, List.set_cons_succ]
    refine wpAnyH_take (i := 26) (oi := _) (v := ?_) rfl (by kernel_rfl) (by kernel_rfl) (by kernel_rfl) (fun _ _ _ h => h) (Or.inl ⟨by kernel_rfl, ?_⟩) hHeld ?_
    rotate_left
    · (intro w hSw; (try dsimp only at hSw); go_simp; try with_reducible rfl)
    try simp only [Act.put, List.getElem_toArray, List.getElem_cons_succ, List.getElem_cons_zero, List.setIfInBounds_toArray, List.set_cons_zero, List.set_cons_succ]
    refine wpAnyH_take (i := 27) (oi := _) (v := ?_) rfl (by kernel_rfl) (by kernel_rfl) (by kernel_rfl) (fun _ _ _ h => h) (Or.inl ⟨by kernel_rfl, ?_⟩) hHeld ?_
    rotate_left
    · (intro w hSw; (try dsimp only at hSw); go_simp; try with_reducible rfl)
    try simp only [Act.put, List.getElem_toArray, List.getElem_cons_succ, List.getElem_cons_zero, List.setIfInBounds_toArray, List.set_cons_zero, List.set_cons_succ]
    refine wpAnyH_take (i := 28) (oi := _) (v := ?_) rfl (by kernel_rfl) (by kernel_rfl) (by kernel_rfl) (fun _ _ _ h => h) (Or.inl ⟨by kernel_rfl, ?_⟩) hHeld ?_
    rotate_left
    · (intro w hSw; (try dsimp only at hSw); go_simp; try with_reducible rfl)
    try simp only [Act.put, List.getElem_toArray, List.getElem_cons_succ, List.getElem_cons_zero, List.setIfInBounds_toArray, List.set_cons_zero, List.set_cons_succ]
    refine wpAnyH_take (i := 29) (oi := _) (v := ?_) rfl (by kernel_rfl) (by kernel_rfl) (by kernel_rfl) (fun _ _ _ h => h) (Or.inl ⟨by kernel_rfl, ?_⟩) hHeld ?_
    rotate_left
    · (intro w hSw; (try dsimp only at hSw); go_simp; try with_reducible rfl)
    try simp only [Act.put, List.getElem_toArray, List.getElem_cons_succ, List.getElem_cons_zero, List.setIfInBounds_toArray, List.set_cons_zero, List.set_cons_succ]
    refine wpAnyH_take (i := 30) (oi := _) (v := ?_) rfl (by kernel_rfl) (by kernel_rfl) (by kernel_rfl) (fun _ _ _ h => h) (Or.inl ⟨by kernel_rfl, ?_⟩) hHeld ?_
    rotate_left
    · (intro w hSw; (try dsimp only at hSw); go_simp; try with_reducible rfl)
    try simp only [Act.put, List.getElem_toArray, List.getElem_cons_succ, List.getElem_cons_zero, List.setIfInBounds_toArray, List.set_cons_zero, List.set_cons_succ]
    refine wpAnyH_take (i := 31) (oi := _) (v := ?_) rfl (by kernel_rfl) (by kernel_rfl) (by kernel_rfl) (fun _ _ _ h => h) (Or.inl ⟨by kernel_rfl, ?_⟩) hHeld ?_
    rotate_left
    · (intro w hSw; (try dsimp only at hSw); go_simp; try with_reducible rfl)
    try simp only [Act.put, List.getElem_toArray, List.getElem_cons_succ, List.getElem_cons_zero, List.setIfInBounds_toArray, List.set_cons_zero, List.set_cons_succ]
    refine wpAnyH_take (i := 32) (oi := _) (v := ?_) rfl (by kernel_rfl) (by kernel_rfl) (by kernel_rfl) (fun _ _ _ h => h) (Or.inl ⟨by kernel_rfl, ?_⟩) hHeld ?_
    rotate_left
    · (intro w hSw; (try dsimp only at hSw); go_simp; try with_reducible rfl)
    try simp only [Act.put, List.getElem_toArray, List.getElem_cons_succ, List.getElem_cons_zero, List.setIfInBounds_toArray, List.set_cons_zero, List.set_cons_succ]
    refine wpAnyH_ready (rs := [33]) (by kernel_rfl) (by simp) ?_
    refine AllReadyH.cons (o := _) rfl (fun K0 hK0 => ?_) AllReadyH.nil
    go_simp
    refine (LM9.out _ (by go_split_ands; assumption)).mono ?_
    rintro e9 wG ⟨rfl, hwG⟩
    go_wp2_with fail
    skip
    refine hK0.out _ _ (K19.out _ hwG) (fun hHeld => ?_)
    clear hK0 K0
    try simp only [Act.put, List.getElem_toArray, List.getElem_cons_succ, List.getElem_cons_zero, List.setIfInBounds_toArray, List.set_cons_zero, List.set_cons_succ]
    refine wpAnyH_take (i := 34) (oi := _) (v := ?_) rfl (by kernel_rfl) (by kernel_rfl) (by kernel_rfl) (fun _ _ _ h => h) (Or.inl ⟨by kernel_rfl, ?_⟩) hHeld ?_
    rotate_left
    · (intro w hSw; (try dsimp only at hSw); go_simp; try with_reducible rfl)
    try simp only [Act.put, List.getElem_toArray, List.getElem_cons_succ, List.getElem_cons_zero, List.setIfInBounds_toArray, List.set_cons_zero, List.set_cons_succ]
    refine wpAnyH_take (i := 35) (oi := _) (v := ?_) rfl (by kernel_rfl) (by kernel_rfl) (by kernel_rfl) (fun _ _ _ h => h) (Or.inl ⟨by kernel_rfl, ?_⟩) hHeld ?_
    rotate_left
    · (intro w hSw; (try dsimp only at hSw); go_simp; try with_reducible rfl)
    try simp only [Act.put, List.getElem_toArray, List.getElem_cons_succ, List.getElem_cons_zero, List.setIfInBounds_toArray, List.set_cons_zero, List.set_cons_succ]
    refine wpAnyH_done (by kernel_rfl) ?_ _
    clear hHeld
    have BW := Lib.hid (FIN.out _ hwG)
    clear FIN hwG
    go_wp2
    go_ret
    exact ⟨rfl, BW.out⟩

end Go.Proofs.Ytckapndpefkcgaa
