/-
  The walk of FnScheds.
-/
import Derived.Test.YtckapndpefkcgaaDrawP5
import Derived.Test.YtckapndpefkcgaaDraw1d
import Derived.Test.YtckapndpefkcgaaStrideOfW
import Derived.Test.YtckapndpefkcgaaSame5
import Derived.Test.YtckapndpefkcgaaSpec5g
import Derived.Test.YtckapndpefkcgaaSpec5c
import Derived.Test.YtckapndpefkcgaaImpl5g
import Derived.Test.YtckapndpefkcgaaImpl5e
set_option maxHeartbeats 1000000
namespace Go.Proofs.Ytckapndpefkcgaa
open Go.RowKit
set_option maxRecDepth 100000

theorem run_sr0 (q i r b : Int) (A : Option Addr) (k c : Nat) (W : World) : (Instr.field 56 (.agg #[.int .i64 q, .int .i64 i, .int .i64 r, .int .i64 b, .slice A k c]) 0).run Try.prog W = .ok (.int .i64 q) W := by kernel_rfl
theorem run_sr2 (q i r b : Int) (A : Option Addr) (k c : Nat) (W : World) : (Instr.field 56 (.agg #[.int .i64 q, .int .i64 i, .int .i64 r, .int .i64 b, .slice A k c]) 2).run Try.prog W = .ok (.int .i64 r) W := by kernel_rfl
theorem run_sr3 (q i r b : Int) (A : Option Addr) (k c : Nat) (W : World) : (Instr.field 56 (.agg #[.int .i64 q, .int .i64 i, .int .i64 r, .int .i64 b, .slice A k c]) 3).run Try.prog W = .ok (.agg #[.int .i64 b, .slice A k c]) W := by kernel_rfl
theorem run_irne (q i : Int) (W : World) : (binOp .neq 64 (.agg #[.int .i64 q, .int .i64 i]) (.agg #[.int .i64 q, .int .i64 i])).run Try.prog W = .ok (.bool false) W := by simp [go_sem, Try.underlying64]
theorem join_good {b : Int} {xs : List R3} {i t r q ji jr jb : Int} {js : List R3} (h : join5 b xs i t r = (q, ji, jr, jb, js)) (h0 : q = 0) : sf5 jb js = 0 ∧ (leave5 jb js i).1 = 0 ∧ (xs ≠ [] → (leave5 jb js i).2.2.2 = (b, xs)) := by
  subst h0
  obtain ⟨e, _, h2, h3, h4⟩ := join5_succ (b := b) (xs := xs) (i := i) (t := t) (r := r) (by rw [h])
  rw [h] at e
  simp only [Prod.mk.injEq] at e
  obtain ⟨_, _, _, rfl, rfl⟩ := e
  exact ⟨h2, h3, h4⟩
theorem leave_good {b : Int} {xs : List R3} {i q li lr lb : Int} {ls : List R3} (h : leave5 b xs i = (q, li, lr, lb, ls)) (h0 : q = 0) : sf5 lb ls = 0 ∧ ls.length + 1 = xs.length ∧ b ≤ lb := by
  subst h0
  obtain ⟨e, _, h2, h3, h4⟩ := leave5_succ (b := b) (xs := xs) (i := i) (by rw [h])
  rw [h] at e
  simp only [Prod.mk.injEq] at e
  obtain ⟨_, _, _, rfl, rfl⟩ := e
  exact ⟨h2, h3, h4⟩

set_option maxHeartbeats 32000000 in
theorem walkScheds (A : Option Addr) (k c : Nat) (b : Nat → Int) (w : World) (h : Sl w 0 w.heap.size A k (fun j => .int .u8 (b j))) (hb : ∀ j, 0 ≤ b j ∧ b j ≤ 255) (hk : k ≤ 1048576) :
    Calls Try.prog 5 #[.slice A k c] w fun e w' => e = .returned (.bool true) ∧ Below w.heap.size w w' := by
  have HBY := Lib.hid hb
  have CD : Hid (∀ W, Below w.heap.size w W → Sl W 0 w.heap.size A k (fun j => .int .u8 (b j))) := fun W hW => h.below hW (Nat.le_refl _)
  clear h hb
  go_enter Try.func5, Try.ntmps5
  go_wp2_with fail
  refine (lwBig_any A k c w).mono ?_
  rintro e w' ⟨rfl, rfl⟩
  have hk2 : ¬ ((1048576 : Int) < (k : Int)) := by omega
  have DD := Lib.hid (DrawJoinSched_any 0 w.heap.size A k c b w hk HBY.out (CD.out w (Below.refl _ _)))
  go_wp2_with fail
  refine DD.out.mono ?_
  rintro e x1w ⟨b1, B1, c1, xs1, i1, t1, r1, rfl, hn1, ho, hbl⟩
  clear DD
  have BSx1w : Hid (Below w.heap.size w x1w) := hbl
  have Ux1w : Hid (Below w.heap.size w x1w) := BSx1w.out
  clear hbl
  have OB1 := Lib.hid ho
  clear ho
  obtain ⟨x2w, hx2w⟩ : ∃ V, V = x1w.alloc (.cells #[.int .i64 b1, .slice B1 xs1.length c1] 43) := ⟨_, rfl⟩
  obtain ⟨q1, hq1⟩ : ∃ q, q = x1w.heap.size := ⟨_, rfl⟩
  have hzq1 : x1w.heap.size = q1 := hq1.symm
  have Kq1 : Hid (x2w.heap[q1]? = some (.cells #[.int .i64 b1, .slice B1 xs1.length c1] 43 (0, 0))) := by show _ = _; rw [hx2w, ← hzq1]; exact heap_alloc_new x1w _
  have BSx2w : Hid (Below x1w.heap.size x1w x2w) := by rw [hx2w]; exact below_new x1w _
  have Ux2w : Hid (Below w.heap.size w x2w) := Ux1w.out.trans (BSx2w.out.mono Ux1w.out.size)
  have HWx2w := Lib.hid hx2w; have HBq1 := Lib.hid hq1
  clear hzq1
  clear hx2w hq1
  go_upto_region 4 with (fail)
  rw [← HWx2w.out, ← HBq1.out]
  clear HWx2w HBq1
  have KK_q1 := Kq1.out
  have q0 := cell_of_row x2w _ 0 _ _ _ KK_q1; have q1 := cell_of_row x2w _ 1 _ _ _ KK_q1
  simp at q0 q1
  clear KK_q1
  obtain ⟨jq, ji, jr, jb, js, hq⟩ : ∃ jq ji jr jb js, join5 b1 xs1 i1 t1 r1 = (jq, ji, jr, jb, js) := ⟨_, _, _, _, _, rfl⟩
  have EQJ := Lib.hid hq
  have LJ : Hid (js.length ≤ 6) := by have := join5_len b1 xs1 i1 t1 r1; rw [hq] at this; exact this
  have IP0 := implJoinSched_any _ _ B1 c1 b1 xs1 i1 t1 r1 x2w (by omega) ((OR.sl0 OB1.out).below BSx2w.out (Nat.le_refl _))
  rw [hq] at IP0
  clear hq
  have DD := Lib.hid (IP0)
  clear IP0
  go_wp2_with fail
  refine DD.out.mono ?_
  rintro e x3w ⟨Q2, d2, rfl, ho, hbl⟩
  dsimp only
  clear DD
  have BSx3w : Hid (Below x2w.heap.size x2w x3w) := hbl
  have Ux3w : Hid (Below w.heap.size w x3w) := Ux2w.out.trans (BSx3w.out.mono Ux2w.out.size)
  clear hbl
  have OQ2 := Lib.hid ho
  clear ho
  clear q0 q1
  obtain ⟨x4w, hx4w⟩ : ∃ V, V = x3w.alloc (.cells #[.int .i64 jq, .int .i64 ji, .int .i64 jr, .int .i64 jb, .slice Q2 js.length d2] 56) := ⟨_, rfl⟩
  obtain ⟨q2, hq2⟩ : ∃ q, q = x3w.heap.size := ⟨_, rfl⟩
  have hzq2 : x3w.heap.size = q2 := hq2.symm
  have Kq2 : Hid (x4w.heap[q2]? = some (.cells #[.int .i64 jq, .int .i64 ji, .int .i64 jr, .int .i64 jb, .slice Q2 js.length d2] 56 (0, 0))) := by show _ = _; rw [hx4w, ← hzq2]; exact heap_alloc_new x3w _
  have BSx4w : Hid (Below x3w.heap.size x3w x4w) := by rw [hx4w]; exact below_new x3w _
  have Ux4w : Hid (Below w.heap.size w x4w) := Ux3w.out.trans (BSx4w.out.mono Ux3w.out.size)
  have HWx4w := Lib.hid hx4w; have HBq2 := Lib.hid hq2
  clear hzq2
  clear hx4w hq2
  go_upto_region 5 with (fail)
  rw [← HWx4w.out, ← HBq2.out]
  clear HWx4w HBq2
  have DD := Lib.hid (DrawLeaveSched_any 0 w.heap.size A k c b x4w hk HBY.out (CD.out x4w Ux4w.out))
  go_wp2_with fail
  refine DD.out.mono ?_
  rintro e x5w ⟨b3, B3, c3, xs3, i3, rfl, hn3, ho, hbl⟩
  clear DD
  have BSx5w : Hid (Below x4w.heap.size x4w x5w) := hbl
  have Ux5w : Hid (Below w.heap.size w x5w) := Ux4w.out.trans (BSx5w.out.mono Ux4w.out.size)
  clear hbl
  have OB3 := Lib.hid ho
  clear ho
  obtain ⟨x6w, hx6w⟩ : ∃ V, V = x5w.alloc (.cells #[.int .i64 b3, .slice B3 xs3.length c3] 43) := ⟨_, rfl⟩
  obtain ⟨q3, hq3⟩ : ∃ q, q = x5w.heap.size := ⟨_, rfl⟩
  have hzq3 : x5w.heap.size = q3 := hq3.symm
  have Kq3 : Hid (x6w.heap[q3]? = some (.cells #[.int .i64 b3, .slice B3 xs3.length c3] 43 (0, 0))) := by show _ = _; rw [hx6w, ← hzq3]; exact heap_alloc_new x5w _
  have BSx6w : Hid (Below x5w.heap.size x5w x6w) := by rw [hx6w]; exact below_new x5w _
  have Ux6w : Hid (Below w.heap.size w x6w) := Ux5w.out.trans (BSx6w.out.mono Ux5w.out.size)
  have HWx6w := Lib.hid hx6w; have HBq3 := Lib.hid hq3
  clear hzq3
  clear hx6w hq3
  go_upto_region 6 with (fail)
  rw [← HWx6w.out, ← HBq3.out]
  clear HWx6w HBq3
  have KK_q3 := Kq3.out
  have q0 := cell_of_row x6w _ 0 _ _ _ KK_q3; have q1 := cell_of_row x6w _ 1 _ _ _ KK_q3
  simp at q0 q1
  clear KK_q3
  obtain ⟨lq, li, lr, lb, ls, hq⟩ : ∃ jq ji jr jb js, leave5 b3 xs3 i3 = (jq, ji, jr, jb, js) := ⟨_, _, _, _, _, rfl⟩
  have EQL := Lib.hid hq
  have LL : Hid (ls.length ≤ 6) := by have := leave5_len b3 xs3 i3; rw [hq] at this; exact this
  have IP0 := implLeaveSched_any _ _ B3 c3 b3 xs3 i3 x6w (by omega) ((OR.sl0 OB3.out).below BSx6w.out (Nat.le_refl _))
  rw [hq] at IP0
  clear hq
  have DD := Lib.hid (IP0)
  clear IP0
  go_wp2_with fail
  refine DD.out.mono ?_
  rintro e x7w ⟨Q4, d4, rfl, ho, hbl⟩
  dsimp only
  clear DD
  have BSx7w : Hid (Below x6w.heap.size x6w x7w) := hbl
  have Ux7w : Hid (Below w.heap.size w x7w) := Ux6w.out.trans (BSx7w.out.mono Ux6w.out.size)
  clear hbl
  have OQ4 := Lib.hid ho
  clear ho
  clear q0 q1
  obtain ⟨x8w, hx8w⟩ : ∃ V, V = x7w.alloc (.cells #[.int .i64 lq, .int .i64 li, .int .i64 lr, .int .i64 lb, .slice Q4 ls.length d4] 56) := ⟨_, rfl⟩
  obtain ⟨q4, hq4⟩ : ∃ q, q = x7w.heap.size := ⟨_, rfl⟩
  have hzq4 : x7w.heap.size = q4 := hq4.symm
  have Kq4 : Hid (x8w.heap[q4]? = some (.cells #[.int .i64 lq, .int .i64 li, .int .i64 lr, .int .i64 lb, .slice Q4 ls.length d4] 56 (0, 0))) := by show _ = _; rw [hx8w, ← hzq4]; exact heap_alloc_new x7w _
  have BSx8w : Hid (Below x7w.heap.size x7w x8w) := by rw [hx8w]; exact below_new x7w _
  have Ux8w : Hid (Below w.heap.size w x8w) := Ux7w.out.trans (BSx8w.out.mono Ux7w.out.size)
  have HWx8w := Lib.hid hx8w; have HBq4 := Lib.hid hq4
  clear hzq4
  clear hx8w hq4
  go_upto_region 7 with (fail)
  rw [← HWx8w.out, ← HBq4.out]
  clear HWx8w HBq4
  have DD := Lib.hid (DrawStrideOf_any 0 w.heap.size A k c b x8w hk HBY.out (CD.out x8w Ux8w.out))
  go_wp2_with fail
  refine DD.out.mono ?_
  rintro e x9w ⟨t5, rfl, hbl⟩
  clear DD
  have BSx9w : Hid (Below x8w.heap.size x8w x9w) := hbl
  have Ux9w : Hid (Below w.heap.size w x9w) := Ux8w.out.trans (BSx9w.out.mono Ux8w.out.size)
  clear hbl
  go_upto_region 8 with (fail)
  have DD := Lib.hid (DrawSameScheds_any 0 w.heap.size A k c b x9w hk HBY.out (CD.out x9w Ux9w.out))
  go_wp2_with fail
  refine DD.out.mono ?_
  rintro e x10w ⟨b5, b6, B5, B6, c5, c6, xs5, xs6, rfl, hn5, hn6, ho5, ho6, hbl⟩
  clear DD
  have BSx10w : Hid (Below x9w.heap.size x9w x10w) := hbl
  have Ux10w : Hid (Below w.heap.size w x10w) := Ux9w.out.trans (BSx10w.out.mono Ux9w.out.size)
  clear hbl
  have OB5 := Lib.hid ho5
  clear ho5
  have OB6 := Lib.hid ho6
  clear ho6
  obtain ⟨x11w, hx11w⟩ : ∃ V, V = x10w.alloc (.cells #[.int .i64 b5, .slice B5 xs5.length c5] 43) := ⟨_, rfl⟩
  obtain ⟨q5, hq5⟩ : ∃ q, q = x10w.heap.size := ⟨_, rfl⟩
  have hzq5 : x10w.heap.size = q5 := hq5.symm
  have Kq5 : Hid (x11w.heap[q5]? = some (.cells #[.int .i64 b5, .slice B5 xs5.length c5] 43 (0, 0))) := by show _ = _; rw [hx11w, ← hzq5]; exact heap_alloc_new x10w _
  have BSx11w : Hid (Below x10w.heap.size x10w x11w) := by rw [hx11w]; exact below_new x10w _
  have Ux11w : Hid (Below w.heap.size w x11w) := Ux10w.out.trans (BSx11w.out.mono Ux10w.out.size)
  have HWx11w := Lib.hid hx11w; have HBq5 := Lib.hid hq5
  obtain ⟨x12w, hx12w⟩ : ∃ V, V = x11w.alloc (.cells #[.int .i64 b6, .slice B6 xs6.length c6] 43) := ⟨_, rfl⟩
  obtain ⟨q6, hq6⟩ : ∃ q, q = q5 + 1 := ⟨_, rfl⟩
  have hzq6 : x11w.heap.size = q6 := by rw [hx11w]; simp; omega
  have Kq6 : Hid (x12w.heap[q6]? = some (.cells #[.int .i64 b6, .slice B6 xs6.length c6] 43 (0, 0))) := by show _ = _; rw [hx12w, ← hzq6]; exact heap_alloc_new x11w _
  have BSx12w : Hid (Below x11w.heap.size x11w x12w) := by rw [hx12w]; exact below_new x11w _
  have Ux12w : Hid (Below w.heap.size w x12w) := Ux11w.out.trans (BSx12w.out.mono Ux11w.out.size)
  have HWx12w := Lib.hid hx12w; have HBq6 := Lib.hid hq6
  clear hzq5
  clear hzq6
  clear hx11w hq5
  clear hx12w hq6
  go_upto_region 9 with (fail)
  rw [← HWx11w.out, ← HBq5.out, ← HWx12w.out, ← HBq6.out]
  clear HWx11w HBq5
  clear HWx12w HBq6
  obtain ⟨wy, hwy⟩ : ∃ V, V = x12w := ⟨_, rfl⟩
  have F : Hid (∀ W, Below wy.heap.size wy W → (W.cell? ⟨q1, 0, none⟩ = some (.int .i64 b1) ∧ W.cell? ⟨q1, 1, none⟩ = some (.slice B1 xs1.length c1)) ∧ (W.cell? ⟨q2, 0, none⟩ = some (.int .i64 jq) ∧ W.cell? ⟨q2, 1, none⟩ = some (.int .i64 ji) ∧ W.cell? ⟨q2, 2, none⟩ = some (.int .i64 jr) ∧ W.cell? ⟨q2, 3, none⟩ = some (.int .i64 jb) ∧ W.cell? ⟨q2, 4, none⟩ = some (.slice Q2 js.length d2)) ∧ (W.cell? ⟨q3, 0, none⟩ = some (.int .i64 b3) ∧ W.cell? ⟨q3, 1, none⟩ = some (.slice B3 xs3.length c3)) ∧ (W.cell? ⟨q4, 0, none⟩ = some (.int .i64 lq) ∧ W.cell? ⟨q4, 1, none⟩ = some (.int .i64 li) ∧ W.cell? ⟨q4, 2, none⟩ = some (.int .i64 lr) ∧ W.cell? ⟨q4, 3, none⟩ = some (.int .i64 lb) ∧ W.cell? ⟨q4, 4, none⟩ = some (.slice Q4 ls.length d4)) ∧ (W.cell? ⟨q5, 0, none⟩ = some (.int .i64 b5) ∧ W.cell? ⟨q5, 1, none⟩ = some (.slice B5 xs5.length c5)) ∧ (W.cell? ⟨q6, 0, none⟩ = some (.int .i64 b6) ∧ W.cell? ⟨q6, 1, none⟩ = some (.slice B6 xs6.length c6)) ∧ Sl W 0 wy.heap.size B1 (xs1.length * 3) (fun j => .int .i64 (gi (fl xs1) j)) ∧ Sl W 0 wy.heap.size Q2 (js.length * 3) (fun j => .int .i64 (gi (fl js) j)) ∧ Sl W 0 wy.heap.size B3 (xs3.length * 3) (fun j => .int .i64 (gi (fl xs3) j)) ∧ Sl W 0 wy.heap.size Q4 (ls.length * 3) (fun j => .int .i64 (gi (fl ls) j)) ∧ Sl W 0 wy.heap.size B5 (xs5.length * 3) (fun j => .int .i64 (gi (fl xs5) j)) ∧ Sl W 0 wy.heap.size B6 (xs6.length * 3) (fun j => .int .i64 (gi (fl xs6) j)) ∧ Below w.heap.size w W) := fun W hW => by
    rw [hwy] at hW ⊢
    have sx1w := BSx1w.out.size
    have sx2w := BSx2w.out.size
    have sx3w := BSx3w.out.size
    have sx4w := BSx4w.out.size
    have sx5w := BSx5w.out.size
    have sx6w := BSx6w.out.size
    have sx7w := BSx7w.out.size
    have sx8w := BSx8w.out.size
    have sx9w := BSx9w.out.size
    have sx10w := BSx10w.out.size
    have sx11w := BSx11w.out.size
    have sx12w := BSx12w.out.size
    have fx11w : Below x11w.heap.size x11w W := BSx12w.out.trans (hW.mono sx12w)
    have fx10w : Below x10w.heap.size x10w W := BSx11w.out.trans (fx11w.mono sx11w)
    have fx9w : Below x9w.heap.size x9w W := BSx10w.out.trans (fx10w.mono sx10w)
    have fx8w : Below x8w.heap.size x8w W := BSx9w.out.trans (fx9w.mono sx9w)
    have fx7w : Below x7w.heap.size x7w W := BSx8w.out.trans (fx8w.mono sx8w)
    have fx6w : Below x6w.heap.size x6w W := BSx7w.out.trans (fx7w.mono sx7w)
    have fx5w : Below x5w.heap.size x5w W := BSx6w.out.trans (fx6w.mono sx6w)
    have fx4w : Below x4w.heap.size x4w W := BSx5w.out.trans (fx5w.mono sx5w)
    have fx3w : Below x3w.heap.size x3w W := BSx4w.out.trans (fx4w.mono sx4w)
    have fx2w : Below x2w.heap.size x2w W := BSx3w.out.trans (fx3w.mono sx3w)
    have fx1w : Below x1w.heap.size x1w W := BSx2w.out.trans (fx2w.mono sx2w)
    have fw : Below w.heap.size w W := BSx1w.out.trans (fx1w.mono sx1w)
    have jq1 := (fx2w.block q1 (Array.getElem?_eq_some_iff.1 Kq1.out).1).trans Kq1.out
    have jq2 := (fx4w.block q2 (Array.getElem?_eq_some_iff.1 Kq2.out).1).trans Kq2.out
    have jq3 := (fx6w.block q3 (Array.getElem?_eq_some_iff.1 Kq3.out).1).trans Kq3.out
    have jq4 := (fx8w.block q4 (Array.getElem?_eq_some_iff.1 Kq4.out).1).trans Kq4.out
    have jq5 := (fx11w.block q5 (Array.getElem?_eq_some_iff.1 Kq5.out).1).trans Kq5.out
    have jq6 := (hW.block q6 (Array.getElem?_eq_some_iff.1 Kq6.out).1).trans Kq6.out
    have gB1 := ((OR.sl0 OB1.out).below fx1w (Nat.le_refl _)).wide (Nat.zero_le _) (show x1w.heap.size ≤ x12w.heap.size by omega)
    have gQ2 := ((OR.sl0 OQ2.out).below fx3w (Nat.le_refl _)).wide (Nat.zero_le _) (show x3w.heap.size ≤ x12w.heap.size by omega)
    have gB3 := ((OR.sl0 OB3.out).below fx5w (Nat.le_refl _)).wide (Nat.zero_le _) (show x5w.heap.size ≤ x12w.heap.size by omega)
    have gQ4 := ((OR.sl0 OQ4.out).below fx7w (Nat.le_refl _)).wide (Nat.zero_le _) (show x7w.heap.size ≤ x12w.heap.size by omega)
    have gB5 := ((OR.sl0 OB5.out).below fx10w (Nat.le_refl _)).wide (Nat.zero_le _) (show x10w.heap.size ≤ x12w.heap.size by omega)
    have gB6 := ((OR.sl0 OB6.out).below fx10w (Nat.le_refl _)).wide (Nat.zero_le _) (show x10w.heap.size ≤ x12w.heap.size by omega)
    exact ⟨⟨cell_of_row W _ 0 _ _ _ jq1, cell_of_row W _ 1 _ _ _ jq1⟩, ⟨cell_of_row W _ 0 _ _ _ jq2, cell_of_row W _ 1 _ _ _ jq2, cell_of_row W _ 2 _ _ _ jq2, cell_of_row W _ 3 _ _ _ jq2, cell_of_row W _ 4 _ _ _ jq2⟩, ⟨cell_of_row W _ 0 _ _ _ jq3, cell_of_row W _ 1 _ _ _ jq3⟩, ⟨cell_of_row W _ 0 _ _ _ jq4, cell_of_row W _ 1 _ _ _ jq4, cell_of_row W _ 2 _ _ _ jq4, cell_of_row W _ 3 _ _ _ jq4, cell_of_row W _ 4 _ _ _ jq4⟩, ⟨cell_of_row W _ 0 _ _ _ jq5, cell_of_row W _ 1 _ _ _ jq5⟩, ⟨cell_of_row W _ 0 _ _ _ jq6, cell_of_row W _ 1 _ _ _ jq6⟩, gB1, gQ2, gB3, gQ4, gB5, gB6, fw⟩
  clear BSx1w Ux1w BSx2w Ux2w BSx3w Ux3w BSx4w Ux4w BSx5w Ux5w BSx6w Ux6w BSx7w Ux7w BSx8w Ux8w BSx9w Ux9w BSx10w Ux10w BSx11w Ux11w BSx12w Ux12w Kq1 Kq2 Kq3 Kq4 Kq5 Kq6 OB1 OQ2 OB3 OQ4 OB5 OB6 CD HBY
  rw [← hwy]
  clear hwy
  have UP : ∀ {W W' : World}, Below wy.heap.size wy W → Below W.heap.size W W' → Below wy.heap.size wy W' := fun a b => a.trans (b.mono a.size)
  have KH : Hid (∀ W, Below wy.heap.size wy W → ((W.cell? ⟨q1, 0, none⟩ = some (.int .i64 b1) ∧ W.cell? ⟨q1, 1, none⟩ = some (.slice B1 xs1.length c1)) ∧ (W.cell? ⟨q2, 0, none⟩ = some (.int .i64 jq) ∧ W.cell? ⟨q2, 1, none⟩ = some (.int .i64 ji) ∧ W.cell? ⟨q2, 2, none⟩ = some (.int .i64 jr) ∧ W.cell? ⟨q2, 3, none⟩ = some (.int .i64 jb) ∧ W.cell? ⟨q2, 4, none⟩ = some (.slice Q2 js.length d2)) ∧ (W.cell? ⟨q3, 0, none⟩ = some (.int .i64 b3) ∧ W.cell? ⟨q3, 1, none⟩ = some (.slice B3 xs3.length c3)) ∧ (W.cell? ⟨q4, 0, none⟩ = some (.int .i64 lq) ∧ W.cell? ⟨q4, 1, none⟩ = some (.int .i64 li) ∧ W.cell? ⟨q4, 2, none⟩ = some (.int .i64 lr) ∧ W.cell? ⟨q4, 3, none⟩ = some (.int .i64 lb) ∧ W.cell? ⟨q4, 4, none⟩ = some (.slice Q4 ls.length d4)) ∧ (W.cell? ⟨q5, 0, none⟩ = some (.int .i64 b5) ∧ W.cell? ⟨q5, 1, none⟩ = some (.slice B5 xs5.length c5)) ∧ (W.cell? ⟨q6, 0, none⟩ = some (.int .i64 b6) ∧ W.cell? ⟨q6, 1, none⟩ = some (.slice B6 xs6.length c6))) ∧ Below wy.heap.size wy W) := fun W hW => by
    obtain ⟨h0, h1, h2, h3, h4, h5, _⟩ := F.out W hW
    exact ⟨⟨h0, h1, h2, h3, h4, h5⟩, hW⟩
  have SPJ : Hid (∀ W, Below wy.heap.size wy W → Calls Try.prog 35 #[.agg #[.int .i64 b1, .slice B1 xs1.length c1], .int .i64 i1, .int .i64 t1, .int .i64 r1] W fun e w' => ∃ A7 c7, e = .returned (.agg #[.int .i64 jq, .int .i64 ji, .int .i64 jr, .int .i64 jb, .slice A7 js.length c7]) ∧ OR 52 3 w' W.heap.size A7 js.length c7 (fl js) ∧ Below wy.heap.size wy w') := fun W hW => by
    obtain ⟨_, _, _, _, _, _, hr, _, _, _, _, _, _⟩ := F.out W hW
    have := specJoinSched_any _ _ B1 c1 b1 xs1 i1 t1 r1 W (by omega) hr
    rw [EQJ.out] at this
    exact this.mono fun e w' ⟨A, c, he, ho, hb⟩ => ⟨A, c, he, ho, UP hW hb⟩
  have SPL : Hid (∀ W, Below wy.heap.size wy W → Calls Try.prog 37 #[.agg #[.int .i64 b3, .slice B3 xs3.length c3], .int .i64 i3] W fun e w' => ∃ A7 c7, e = .returned (.agg #[.int .i64 lq, .int .i64 li, .int .i64 lr, .int .i64 lb, .slice A7 ls.length c7]) ∧ OR 52 3 w' W.heap.size A7 ls.length c7 (fl ls) ∧ Below wy.heap.size wy w') := fun W hW => by
    obtain ⟨_, _, _, _, _, _, _, _, hr, _, _, _, _⟩ := F.out W hW
    have := specLeaveSched_any _ _ B3 c3 b3 xs3 i3 W (by omega) hr
    rw [EQL.out] at this
    exact this.mono fun e w' ⟨A, c, he, ho, hb⟩ => ⟨A, c, he, ho, UP hW hb⟩
  have SMJ : Hid (∀ W lo hi A7 c7, Below wy.heap.size wy W → RS W lo hi A7 js → Calls Try.prog 36 #[.agg #[.int .i64 jb, .slice Q2 js.length d2], .agg #[.int .i64 jb, .slice A7 js.length c7]] W fun e w' => e = .returned (.bool true) ∧ Below wy.heap.size wy w') := fun W lo hi A7 c7 hW h7 => by
    obtain ⟨_, _, _, _, _, _, _, hr, _, _, _, _, _⟩ := F.out W hW
    exact (implSameScheds_any _ _ lo hi Q2 d2 A7 c7 jb jb js js W (by have := LJ.out; omega) hr h7).mono fun e w' hh => ⟨hh.1.trans (by rw [decide_eq_true ⟨rfl, rfl⟩]), UP hW hh.2⟩
  have SML : Hid (∀ W lo hi A7 c7, Below wy.heap.size wy W → RS W lo hi A7 ls → Calls Try.prog 36 #[.agg #[.int .i64 lb, .slice Q4 ls.length d4], .agg #[.int .i64 lb, .slice A7 ls.length c7]] W fun e w' => e = .returned (.bool true) ∧ Below wy.heap.size wy w') := fun W lo hi A7 c7 hW h7 => by
    obtain ⟨_, _, _, _, _, _, _, _, _, hr, _, _, _⟩ := F.out W hW
    exact (implSameScheds_any _ _ lo hi Q4 d4 A7 c7 lb lb ls ls W (by have := LL.out; omega) hr h7).mono fun e w' hh => ⟨hh.1.trans (by rw [decide_eq_true ⟨rfl, rfl⟩]), UP hW hh.2⟩
  obtain ⟨sv1, hsv1⟩ : ∃ v, (stride5 t5).1 = v := ⟨_, rfl⟩
  obtain ⟨sv2, hsv2⟩ : ∃ v, (stride5 t5).2 = v := ⟨_, rfl⟩
  obtain ⟨sq, hsq⟩ : ∃ v, decide (b5 = b6 ∧ xs5 = xs6) = v := ⟨_, rfl⟩
  obtain ⟨fq, hfq⟩ : ∃ v, sf5 b1 xs1 = v := ⟨_, rfl⟩
  have ISD : Hid (∀ W, Below wy.heap.size wy W → Calls Try.prog 38 #[.int .i64 t5] W fun e w' => e = .returned (.agg #[.int .i64 sv1, .int .i64 sv2]) ∧ Below wy.heap.size wy w') := fun W hW => (implStrideOf_any t5 W).mono fun e w' hh => ⟨hh.1.trans (by rw [hsv1, hsv2]), UP hW hh.2⟩
  have SSD : Hid (∀ W, Below wy.heap.size wy W → Calls Try.prog 39 #[.int .i64 t5] W fun e w' => e = .returned (.agg #[.int .i64 sv1, .int .i64 sv2]) ∧ Below wy.heap.size wy w') := fun W hW => (specStrideOf_any t5 W).mono fun e w' hh => ⟨hh.1.trans (by rw [hsv1, hsv2]), UP hW hh.2⟩
  have ISM : Hid (∀ W, Below wy.heap.size wy W → Calls Try.prog 36 #[.agg #[.int .i64 b5, .slice B5 xs5.length c5], .agg #[.int .i64 b6, .slice B6 xs6.length c6]] W fun e w' => e = .returned (.bool sq) ∧ Below wy.heap.size wy w') := fun W hW => by
    obtain ⟨_, _, _, _, _, _, _, _, _, _, ha, hb, _⟩ := F.out W hW
    exact (implSameScheds_any _ _ _ _ B5 c5 B6 c6 b5 b6 xs5 xs6 W (by omega) ha hb).mono fun e w' hh => ⟨hh.1.trans (by rw [hsq]), UP hW hh.2⟩
  have SSM : Hid (∀ W, Below wy.heap.size wy W → Calls Try.prog 40 #[.agg #[.int .i64 b5, .slice B5 xs5.length c5], .agg #[.int .i64 b6, .slice B6 xs6.length c6]] W fun e w' => e = .returned (.bool sq) ∧ Below wy.heap.size wy w') := fun W hW => by
    obtain ⟨_, _, _, _, _, _, _, _, _, _, ha, hb, _⟩ := F.out W hW
    exact (specSameScheds_any _ _ _ _ B5 c5 B6 c6 b5 b6 xs5 xs6 W (by omega) ha hb).mono fun e w' hh => ⟨hh.1.trans (by rw [hsq]), UP hW hh.2⟩
  have ISF : Hid (∀ W, Below wy.heap.size wy W → Calls Try.prog 41 #[.agg #[.int .i64 b1, .slice B1 xs1.length c1]] W fun e w' => e = .returned (.int .i64 fq) ∧ Below wy.heap.size wy w') := fun W hW => by
    obtain ⟨_, _, _, _, _, _, hr, _, _, _, _, _, _⟩ := F.out W hW
    exact (implSchedFault_any _ _ B1 c1 b1 xs1 W (by omega) hr).mono fun e w' hh => ⟨hh.1.trans (by rw [hfq]), UP hW hh.2⟩
  have SSF : Hid (∀ W, Below wy.heap.size wy W → Calls Try.prog 42 #[.agg #[.int .i64 b1, .slice B1 xs1.length c1]] W fun e w' => e = .returned (.int .i64 fq) ∧ Below wy.heap.size wy w') := fun W hW => by
    obtain ⟨_, _, _, _, _, _, hr, _, _, _, _, _, _⟩ := F.out W hW
    exact (specSchedFault_any _ _ B1 c1 b1 xs1 W (by omega) hr).mono fun e w' hh => ⟨hh.1.trans (by rw [hfq]), UP hW hh.2⟩
  clear hsv1 hsv2 hsq hfq
  go_cut [115] from 15 (fun x wx => x = .bool false ∧ Below wy.heap.size wy wx)
  case first => as_aux_lemma =>
    simp only [List.append]
    have y1 : (jq != jq) = false := by simp
    have y2 : (lq != lq) = false := by simp
    have y3 : (lr != lr) = false := by simp
    have y4 : (sq != sq) = false := by simp
    have y5 : (fq != fq) = false := by simp
    have fs0 := fun (q i r b : Int) (A : Option Addr) (k c : Nat) (W : World) => run_sr0 q i r b A k c W
    have fs2 := fun (q i r b : Int) (A : Option Addr) (k c : Nat) (W : World) => run_sr2 q i r b A k c W
    have fs3 := fun (q i r b : Int) (A : Option Addr) (k c : Nat) (W : World) => run_sr3 q i r b A k c W
    have fir := fun (q i : Int) (W : World) => run_irne q i W
    refine wp_region_held_drew (S := fun W => ((W.cell? ⟨q1, 0, none⟩ = some (.int .i64 b1) ∧ W.cell? ⟨q1, 1, none⟩ = some (.slice B1 xs1.length c1)) ∧ (W.cell? ⟨q2, 0, none⟩ = some (.int .i64 jq) ∧ W.cell? ⟨q2, 1, none⟩ = some (.int .i64 ji) ∧ W.cell? ⟨q2, 2, none⟩ = some (.int .i64 jr) ∧ W.cell? ⟨q2, 3, none⟩ = some (.int .i64 jb) ∧ W.cell? ⟨q2, 4, none⟩ = some (.slice Q2 js.length d2)) ∧ (W.cell? ⟨q3, 0, none⟩ = some (.int .i64 b3) ∧ W.cell? ⟨q3, 1, none⟩ = some (.slice B3 xs3.length c3)) ∧ (W.cell? ⟨q4, 0, none⟩ = some (.int .i64 lq) ∧ W.cell? ⟨q4, 1, none⟩ = some (.int .i64 li) ∧ W.cell? ⟨q4, 2, none⟩ = some (.int .i64 lr) ∧ W.cell? ⟨q4, 3, none⟩ = some (.int .i64 lb) ∧ W.cell? ⟨q4, 4, none⟩ = some (.slice Q4 ls.length d4)) ∧ (W.cell? ⟨q5, 0, none⟩ = some (.int .i64 b5) ∧ W.cell? ⟨q5, 1, none⟩ = some (.slice B5 xs5.length c5)) ∧ (W.cell? ⟨q6, 0, none⟩ = some (.int .i64 b6) ∧ W.cell? ⟨q6, 1, none⟩ = some (.slice B6 xs6.length c6))) ∧ Below wy.heap.size wy W) (by kernel_rfl) (KH.out _ (Below.drew (Below.refl _ _))) (fun hHeld => ?_)
    obtain ⟨v0, hv0⟩ : ∃ v0, v0 = wy.drew := ⟨_, rfl⟩
    have BL0 : Hid (Below wy.heap.size wy v0) := by rw [hv0]; exact Below.drew (Below.refl _ _)
    rw [← hv0] at hHeld ⊢
    clear hv0
    refine wpAnyH_take (i := 0) (oi := _) (v := ?_) rfl (by kernel_rfl) (by kernel_rfl) (by kernel_rfl) (fun _ _ _ h => h) (Or.inl ⟨by kernel_rfl, ?_⟩) hHeld ?_
    rotate_left
    · (intro w hSw; (try dsimp only at hSw); go_simp; try with_reducible rfl)
    try simp only [Act.put, List.getElem_toArray, List.getElem_cons_succ, List.getElem_cons_zero, List.setIfInBounds_toArray, List.set_cons_zero, List.set_cons_succ]
    refine wpAnyH_take (i := 1) (oi := _) (v := ?_) rfl (by kernel_rfl) (by kernel_rfl) (by kernel_rfl) (fun _ _ _ h => h) (Or.inl ⟨by kernel_rfl, ?_⟩) hHeld ?_
    rotate_left
    · (intro w hSw; (try dsimp only at hSw); go_simp; try with_reducible rfl)
    try simp only [Act.put, List.getElem_toArray, List.getElem_cons_succ, List.getElem_cons_zero, List.setIfInBounds_toArray, List.set_cons_zero, List.set_cons_succ]
    refine wpAnyH_take (i := 2) (oi := _) (v := ?_) rfl (by kernel_rfl) (by kernel_rfl) (by kernel_rfl) (fun _ _ _ h => h) (Or.inl ⟨by kernel_rfl, ?_⟩) hHeld ?_
    rotate_left
    · (intro w hSw; (try dsimp only at hSw); go_simp; try with_reducible rfl)
    try simp only [Act.put, List.getElem_toArray, List.getElem_cons_succ, List.getElem_cons_zero, List.setIfInBounds_toArray, List.set_cons_zero, List.set_cons_succ]
    refine wpAnyH_take (i := 3) (oi := _) (v := ?_) rfl (by kernel_rfl) (by kernel_rfl) (by kernel_rfl) (fun _ _ _ h => h) (Or.inl ⟨by kernel_rfl, ?_⟩) hHeld ?_
    rotate_left
    · (intro w hSw; (try dsimp only at hSw); go_simp; try with_reducible rfl)
    try simp only [Act.put, List.getElem_toArray, List.getElem_cons_succ, List.getElem_cons_zero, List.setIfInBounds_toArray, List.set_cons_zero, List.set_cons_succ]
    refine wpAnyH_take (i := 4) (oi := _) (v := ?_) rfl (by kernel_rfl) (by kernel_rfl) (by kernel_rfl) (fun _ _ _ h => h) (Or.inl ⟨by kernel_rfl, ?_⟩) hHeld ?_
    rotate_left
    · (intro w hSw; (try dsimp only at hSw); go_simp; try with_reducible rfl)
    try simp only [Act.put, List.getElem_toArray, List.getElem_cons_succ, List.getElem_cons_zero, List.setIfInBounds_toArray, List.set_cons_zero, List.set_cons_succ]
    refine wpAnyH_take (i := 5) (oi := _) (v := ?_) rfl (by kernel_rfl) (by kernel_rfl) (by kernel_rfl) (fun _ _ _ h => h) (Or.inl ⟨by kernel_rfl, ?_⟩) hHeld ?_
    rotate_left
    · (intro w hSw; (try dsimp only at hSw); go_simp; try with_reducible rfl)
    try simp only [Act.put, List.getElem_toArray, List.getElem_cons_succ, List.getElem_cons_zero, List.setIfInBounds_toArray, List.set_cons_zero, List.set_cons_succ]
    refine wpAnyH_ready (rs := [6]) (by kernel_rfl) (by simp) ?_
    refine AllReadyH.cons (o := _) rfl (fun K0 hK0 => ?_) AllReadyH.nil
    go_simp
    refine (SPJ.out _ (by go_split_ands; assumption)).mono ?_
    rintro e9 v1 ⟨A1_, k1_, rfl, ho1_, hv1⟩
    go_wp2_with fail
    skip
    refine hK0.out _ _ (KH.out _ hv1) (fun hHeld => ?_)
    clear hK0 K0
    try simp only [Act.put, List.getElem_toArray, List.getElem_cons_succ, List.getElem_cons_zero, List.setIfInBounds_toArray, List.set_cons_zero, List.set_cons_succ]
    refine wpAnyH_take (i := 7) (oi := _) (v := ?_) rfl (by kernel_rfl) (by kernel_rfl) (by kernel_rfl) (fun _ _ _ h => h) (Or.inl ⟨by kernel_rfl, ?_⟩) hHeld ?_
    rotate_left
    · (intro w hSw; (try dsimp only at hSw); go_simp; try with_reducible rfl)
    try simp only [Act.put, List.getElem_toArray, List.getElem_cons_succ, List.getElem_cons_zero, List.setIfInBounds_toArray, List.set_cons_zero, List.set_cons_succ]
    refine wpAnyH_take (i := 8) (oi := _) (v := ?_) rfl (by kernel_rfl) (by kernel_rfl) (by kernel_rfl) (fun _ _ _ h => h) (Or.inl ⟨by kernel_rfl, ?_⟩) hHeld ?_
    rotate_left
    · (intro w hSw; (try dsimp only at hSw); go_simp; try with_reducible rfl)
    try simp only [Act.put, List.getElem_toArray, List.getElem_cons_succ, List.getElem_cons_zero, List.setIfInBounds_toArray, List.set_cons_zero, List.set_cons_succ]
    refine wpAnyH_take (i := 9) (oi := _) (v := ?_) rfl (by kernel_rfl) (by kernel_rfl) (by kernel_rfl) (fun _ _ _ h => h) (Or.inl ⟨by kernel_rfl, ?_⟩) hHeld ?_
    rotate_left
    · (intro w hSw; (try dsimp only at hSw); go_simp; try with_reducible rfl)
    try simp only [Act.put, List.getElem_toArray, List.getElem_cons_succ, List.getElem_cons_zero, List.setIfInBounds_toArray, List.set_cons_zero, List.set_cons_succ]
    refine wpAnyH_take (i := 10) (oi := _) (v := ?_) rfl (by kernel_rfl) (by kernel_rfl) (by kernel_rfl) (fun _ _ _ h => h) (Or.inl ⟨by kernel_rfl, ?_⟩) hHeld ?_
    rotate_left
    · (intro w hSw; (try dsimp only at hSw); go_simp; try with_reducible rfl)
    try simp only [Act.put, List.getElem_toArray, List.getElem_cons_succ, List.getElem_cons_zero, List.setIfInBounds_toArray, List.set_cons_zero, List.set_cons_succ]
    refine wpAnyH_take (i := 11) (oi := _) (v := ?_) rfl (by kernel_rfl) (by kernel_rfl) (by kernel_rfl) (fun _ _ _ h => h) (Or.inl ⟨by kernel_rfl, ?_⟩) hHeld ?_
    rotate_left
    · (intro w hSw; (try dsimp only at hSw); go_simp; try with_reducible rfl)
    try simp only [Act.put, List.getElem_toArray, List.getElem_cons_succ, List.getElem_cons_zero, List.setIfInBounds_toArray, List.set_cons_zero, List.set_cons_succ]
    refine wpAnyH_take (i := 12) (oi := _) (v := ?_) rfl (by kernel_rfl) (by kernel_rfl) (by kernel_rfl) (fun _ _ _ h => h) (Or.inl ⟨by kernel_rfl, ?_⟩) hHeld ?_
    rotate_left
    · (intro w hSw; (try dsimp only at hSw); go_simp; try with_reducible rfl)
    try simp only [Act.put, List.getElem_toArray, List.getElem_cons_succ, List.getElem_cons_zero, List.setIfInBounds_toArray, List.set_cons_zero, List.set_cons_succ]
    refine wpAnyH_take (i := 13) (oi := _) (v := ?_) rfl (by kernel_rfl) (by kernel_rfl) (by kernel_rfl) (fun _ _ _ h => h) (Or.inl ⟨by kernel_rfl, ?_⟩) hHeld ?_
    rotate_left
    · (intro w hSw; (try dsimp only at hSw); go_simp; try with_reducible rfl)
    try simp only [Act.put, List.getElem_toArray, List.getElem_cons_succ, List.getElem_cons_zero, List.setIfInBounds_toArray, List.set_cons_zero, List.set_cons_succ]
    refine wpAnyH_take (i := 14) (oi := _) (v := ?_) rfl (by kernel_rfl) (by kernel_rfl) (by kernel_rfl) (fun _ _ _ h => h) (Or.inl ⟨by kernel_rfl, ?_⟩) hHeld ?_
    rotate_left
    · (intro w hSw; (try dsimp only at hSw); go_simp; try with_reducible rfl)
    try simp only [Act.put, List.getElem_toArray, List.getElem_cons_succ, List.getElem_cons_zero, List.setIfInBounds_toArray, List.set_cons_zero, List.set_cons_succ]
    refine wpAnyH_take (i := 15) (oi := _) (v := ?_) rfl (by kernel_rfl) (by kernel_rfl) (by kernel_rfl) (fun _ _ _ h => h) (Or.inl ⟨by kernel_rfl, ?_⟩) hHeld ?_
    rotate_left
    · (intro w hSw; (try dsimp only at hSw); go_simp; try with_reducible rfl)
    try simp only [Act.put, List.getElem_toArray, List.getElem_cons_succ, List.getElem_cons_zero, List.setIfInBounds_toArray, List.set_cons_zero, List.set_cons_succ]
    refine wpAnyH_ready (rs := [16]) (by kernel_rfl) (by simp) ?_
    refine AllReadyH.cons (o := _) rfl (fun K0 hK0 => ?_) AllReadyH.nil
    go_simp
    refine (SPJ.out _ (by go_split_ands; assumption)).mono ?_
    rintro e9 v2 ⟨A2_, k2_, rfl, ho2_, hv2⟩
    go_wp2_with fail
    skip
    refine hK0.out _ _ (KH.out _ hv2) (fun hHeld => ?_)
    clear hK0 K0
    try simp only [Act.put, List.getElem_toArray, List.getElem_cons_succ, List.getElem_cons_zero, List.setIfInBounds_toArray, List.set_cons_zero, List.set_cons_succ]
    refine wpAnyH_take (i := 17) (oi := _) (v := ?_) rfl (by kernel_rfl) (by kernel_rfl) (by kernel_rfl) (fun _ _ _ h => h) (Or.inl ⟨by kernel_rfl, ?_⟩) hHeld ?_
    rotate_left
    · (intro w hSw; (try dsimp only at hSw); go_simp; try with_reducible rfl)
    try simp only [Act.put, List.getElem_toArray, List.getElem_cons_succ, List.getElem_cons_zero, List.setIfInBounds_toArray, List.set_cons_zero, List.set_cons_succ]
    refine wpAnyH_ready (rs := [18]) (by kernel_rfl) (by simp) ?_
    refine AllReadyH.cons (o := _) rfl (fun K0 hK0 => ?_) AllReadyH.nil
    go_simp
    refine (SMJ.out _ _ _ _ _ hv2 (OR.sl0 ho2_)).mono ?_
    rintro e9 v3 ⟨rfl, hv3⟩
    go_wp2_with fail
    skip
    refine hK0.out _ _ (KH.out _ hv3) (fun hHeld => ?_)
    clear hK0 K0
    try simp only [Act.put, List.getElem_toArray, List.getElem_cons_succ, List.getElem_cons_zero, List.setIfInBounds_toArray, List.set_cons_zero, List.set_cons_succ]
    refine wpAnyH_take (i := 19) (oi := _) (v := ?_) rfl (by kernel_rfl) (by kernel_rfl) (by kernel_rfl) (fun _ _ _ h => h) (Or.inl ⟨by kernel_rfl, ?_⟩) hHeld ?_
    rotate_left
    · (intro w hSw; (try dsimp only at hSw); go_simp; try with_reducible rfl)
    try simp only [Act.put, List.getElem_toArray, List.getElem_cons_succ, List.getElem_cons_zero, List.setIfInBounds_toArray, List.set_cons_zero, List.set_cons_succ]
    refine wpAnyH_take (i := 20) (oi := _) (v := ?_) rfl (by kernel_rfl) (by kernel_rfl) (by kernel_rfl) (fun _ _ _ h => h) (Or.inl ⟨by kernel_rfl, ?_⟩) hHeld ?_
    rotate_left
    · (intro w hSw; (try dsimp only at hSw); go_simp; try with_reducible rfl)
    try simp only [Act.put, List.getElem_toArray, List.getElem_cons_succ, List.getElem_cons_zero, List.setIfInBounds_toArray, List.set_cons_zero, List.set_cons_succ]
    refine wpAnyH_take (i := 21) (oi := _) (v := ?_) rfl (by kernel_rfl) (by kernel_rfl) (by kernel_rfl) (fun _ _ _ h => h) (Or.inl ⟨by kernel_rfl, ?_⟩) hHeld ?_
    rotate_left
    · (intro w hSw; (try dsimp only at hSw); go_simp; try with_reducible rfl)
    try simp only [Act.put, List.getElem_toArray, List.getElem_cons_succ, List.getElem_cons_zero, List.setIfInBounds_toArray, List.set_cons_zero, List.set_cons_succ]
    refine wpAnyH_take (i := 22) (oi := _) (v := ?_) rfl (by kernel_rfl) (by kernel_rfl) (by kernel_rfl) (fun _ _ _ h => h) (Or.inl ⟨by kernel_rfl, ?_⟩) hHeld ?_
    rotate_left
    · (intro w hSw; (try dsimp only at hSw); go_simp; try with_reducible rfl)
    try simp only [Act.put, List.getElem_toArray, List.getElem_cons_succ, List.getElem_cons_zero, List.setIfInBounds_toArray, List.set_cons_zero, List.set_cons_succ]
    refine wpAnyH_take (i := 23) (oi := _) (v := ?_) rfl (by kernel_rfl) (by kernel_rfl) (by kernel_rfl) (fun _ _ _ h => h) (Or.inl ⟨by kernel_rfl, ?_⟩) hHeld ?_
    rotate_left
    · (intro w hSw; (try dsimp only at hSw); go_simp; try with_reducible rfl)
    try simp only [Act.put, List.getElem_toArray, List.getElem_cons_succ, List.getElem_cons_zero, List.setIfInBounds_toArray, List.set_cons_zero, List.set_cons_succ]
    refine wpAnyH_take (i := 24) (oi := _) (v := ?_) rfl (by kernel_rfl) (by kernel_rfl) (by kernel_rfl) (fun _ _ _ h => h) (Or.inl ⟨by kernel_rfl, ?_⟩) hHeld ?_
    rotate_left
    · (intro w hSw; (try dsimp only at hSw); go_simp; try with_reducible rfl)
    try simp only [Act.put, List.getElem_toArray, List.getElem_cons_succ, List.getElem_cons_zero, List.setIfInBounds_toArray, List.set_cons_zero, List.set_cons_succ]
    refine wpAnyH_take (i := 25) (oi := _) (v := ?_) rfl (by kernel_rfl) (by kernel_rfl) (by kernel_rfl) (fun _ _ _ h => h) (Or.inl ⟨by kernel_rfl, ?_⟩) hHeld ?_
    rotate_left
    · (intro w hSw; (try dsimp only at hSw); go_simp; try with_reducible rfl)
    try simp only [Act.put, List.getElem_toArray, List.getElem_cons_succ, List.getElem_cons_zero, List.setIfInBounds_toArray, List.set_cons_zero, List.set_cons_succ]
    refine wpAnyH_ready (rs := [26]) (by kernel_rfl) (by simp) ?_
    refine AllReadyH.cons (o := _) rfl (fun K0 hK0 => ?_) AllReadyH.nil
    go_simp
    refine (SPL.out _ (by go_split_ands; assumption)).mono ?_
    rintro e9 v4 ⟨A4_, k4_, rfl, ho4_, hv4⟩
    go_wp2_with fail
    skip
    refine hK0.out _ _ (KH.out _ hv4) (fun hHeld => ?_)
    clear hK0 K0
    try simp only [Act.put, List.getElem_toArray, List.getElem_cons_succ, List.getElem_cons_zero, List.setIfInBounds_toArray, List.set_cons_zero, List.set_cons_succ]
    refine wpAnyH_take (i := 27) (oi := _) (v := ?_) rfl (by kernel_rfl) (by kernel_rfl) (by kernel_rfl) (fun _ _ _ h => h) (Or.inl ⟨by kernel_rfl, ?_⟩) hHeld ?_
    rotate_left
    · (intro w hSw; (try dsimp only at hSw); go_simp; try with_reducible rfl)
    try simp only [Act.put, List.getElem_toArray, List.getElem_cons_succ, List.getElem_cons_zero, List.setIfInBounds_toArray, List.set_cons_zero, List.set_cons_succ]
    refine wpAnyH_take (i := 28) (oi := _) (v := ?_) rfl (by kernel_rfl) (by kernel_rfl) (by kernel_rfl) (fun _ _ _ h => h) (Or.inl ⟨by kernel_rfl, ?_⟩) hHeld ?_
    rotate_left
    · (intro w hSw; (try dsimp only at hSw); go_simp; try with_reducible rfl)
    try simp only [Act.put, List.getElem_toArray, List.getElem_cons_succ, List.getElem_cons_zero, List.setIfInBounds_toArray, List.set_cons_zero, List.set_cons_succ]
    refine wpAnyH_take (i := 29) (oi := _) (v := ?_) rfl (by kernel_rfl) (by kernel_rfl) (by kernel_rfl) (fun _ _ _ h => h) (Or.inl ⟨by kernel_rfl, ?_⟩) hHeld ?_
    rotate_left
    · (intro w hSw; (try dsimp only at hSw); go_simp; try with_reducible rfl)
    try simp only [Act.put, List.getElem_toArray, List.getElem_cons_succ, List.getElem_cons_zero, List.setIfInBounds_toArray, List.set_cons_zero, List.set_cons_succ]
    refine wpAnyH_take (i := 30) (oi := _) (v := ?_) rfl (by kernel_rfl) (by kernel_rfl) (by kernel_rfl) (fun _ _ _ h => h) (Or.inl ⟨by kernel_rfl, ?_⟩) hHeld ?_
    rotate_left
    · (intro w hSw; (try dsimp only at hSw); go_simp; try with_reducible rfl)
    try simp only [Act.put, List.getElem_toArray, List.getElem_cons_succ, List.getElem_cons_zero, List.setIfInBounds_toArray, List.set_cons_zero, List.set_cons_succ]
    refine wpAnyH_take (i := 31) (oi := _) (v := ?_) rfl (by kernel_rfl) (by kernel_rfl) (by kernel_rfl) (fun _ _ _ h => h) (Or.inl ⟨by kernel_rfl, ?_⟩) hHeld ?_
    rotate_left
    · (intro w hSw; (try dsimp only at hSw); go_simp; try with_reducible rfl)
    try simp only [Act.put, List.getElem_toArray, List.getElem_cons_succ, List.getElem_cons_zero, List.setIfInBounds_toArray, List.set_cons_zero, List.set_cons_succ]
    refine wpAnyH_take (i := 32) (oi := _) (v := ?_) rfl (by kernel_rfl) (by kernel_rfl) (by kernel_rfl) (fun _ _ _ h => h) (Or.inl ⟨by kernel_rfl, ?_⟩) hHeld ?_
    rotate_left
    · (intro w hSw; (try dsimp only at hSw); go_simp; try with_reducible rfl)
    try simp only [Act.put, List.getElem_toArray, List.getElem_cons_succ, List.getElem_cons_zero, List.setIfInBounds_toArray, List.set_cons_zero, List.set_cons_succ]
    refine wpAnyH_take (i := 33) (oi := _) (v := ?_) rfl (by kernel_rfl) (by kernel_rfl) (by kernel_rfl) (fun _ _ _ h => h) (Or.inl ⟨by kernel_rfl, ?_⟩) hHeld ?_
    rotate_left
    · (intro w hSw; (try dsimp only at hSw); go_simp; try with_reducible rfl)
    try simp only [Act.put, List.getElem_toArray, List.getElem_cons_succ, List.getElem_cons_zero, List.setIfInBounds_toArray, List.set_cons_zero, List.set_cons_succ]
    refine wpAnyH_take (i := 34) (oi := _) (v := ?_) rfl (by kernel_rfl) (by kernel_rfl) (by kernel_rfl) (fun _ _ _ h => h) (Or.inl ⟨by kernel_rfl, ?_⟩) hHeld ?_
    rotate_left
    · (intro w hSw; (try dsimp only at hSw); go_simp; try with_reducible rfl)
    try simp only [Act.put, List.getElem_toArray, List.getElem_cons_succ, List.getElem_cons_zero, List.setIfInBounds_toArray, List.set_cons_zero, List.set_cons_succ]
    refine wpAnyH_ready (rs := [35]) (by kernel_rfl) (by simp) ?_
    refine AllReadyH.cons (o := _) rfl (fun K0 hK0 => ?_) AllReadyH.nil
    go_simp
    refine (SPL.out _ (by go_split_ands; assumption)).mono ?_
    rintro e9 v5 ⟨A5_, k5_, rfl, ho5_, hv5⟩
    go_wp2_with fail
    skip
    refine hK0.out _ _ (KH.out _ hv5) (fun hHeld => ?_)
    clear hK0 K0
    try simp only [Act.put, List.getElem_toArray, List.getElem_cons_succ, List.getElem_cons_zero, List.setIfInBounds_toArray, List.set_cons_zero, List.set_cons_succ]
    refine wpAnyH_take (i := 36) (oi := _) (v := ?_) rfl (by kernel_rfl) (by kernel_rfl) (by kernel_rfl) (fun _ _ _ h => h) (Or.inl ⟨by kernel_rfl, ?_⟩) hHeld ?_
    rotate_left
    · (intro w hSw; (try dsimp only at hSw); go_simp; try with_reducible rfl)
    try simp only [Act.put, List.getElem_toArray, List.getElem_cons_succ, List.getElem_cons_zero, List.setIfInBounds_toArray, List.set_cons_zero, List.set_cons_succ]
    refine wpAnyH_take (i := 37) (oi := _) (v := ?_) rfl (by kernel_rfl) (by kernel_rfl) (by kernel_rfl) (fun _ _ _ h => h) (Or.inl ⟨by kernel_rfl, ?_⟩) hHeld ?_
    rotate_left
    · (intro w hSw; (try dsimp only at hSw); go_simp; try with_reducible rfl)
    try simp only [Act.put, List.getElem_toArray, List.getElem_cons_succ, List.getElem_cons_zero, List.setIfInBounds_toArray, List.set_cons_zero, List.set_cons_succ]
    refine wpAnyH_take (i := 38) (oi := _) (v := ?_) rfl (by kernel_rfl) (by kernel_rfl) (by kernel_rfl) (fun _ _ _ h => h) (Or.inl ⟨by kernel_rfl, ?_⟩) hHeld ?_
    rotate_left
    · (intro w hSw; (try dsimp only at hSw); go_simp; try with_reducible rfl)
    try simp only [Act.put, List.getElem_toArray, List.getElem_cons_succ, List.getElem_cons_zero, List.setIfInBounds_toArray, List.set_cons_zero, List.set_cons_succ]
    refine wpAnyH_take (i := 39) (oi := _) (v := ?_) rfl (by kernel_rfl) (by kernel_rfl) (by kernel_rfl) (fun _ _ _ h => h) (Or.inl ⟨by kernel_rfl, ?_⟩) hHeld ?_
    rotate_left
    · (intro w hSw; (try dsimp only at hSw); go_simp; try with_reducible rfl)
    try simp only [Act.put, List.getElem_toArray, List.getElem_cons_succ, List.getElem_cons_zero, List.setIfInBounds_toArray, List.set_cons_zero, List.set_cons_succ]
    refine wpAnyH_take (i := 40) (oi := _) (v := ?_) rfl (by kernel_rfl) (by kernel_rfl) (by kernel_rfl) (fun _ _ _ h => h) (Or.inl ⟨by kernel_rfl, ?_⟩) hHeld ?_
    rotate_left
    · (intro w hSw; (try dsimp only at hSw); go_simp; try with_reducible rfl)
    try simp only [Act.put, List.getElem_toArray, List.getElem_cons_succ, List.getElem_cons_zero, List.setIfInBounds_toArray, List.set_cons_zero, List.set_cons_succ]
    refine wpAnyH_take (i := 41) (oi := _) (v := ?_) rfl (by kernel_rfl) (by kernel_rfl) (by kernel_rfl) (fun _ _ _ h => h) (Or.inl ⟨by kernel_rfl, ?_⟩) hHeld ?_
    rotate_left
    · (intro w hSw; (try dsimp only at hSw); go_simp; try with_reducible rfl)
    try simp only [Act.put, List.getElem_toArray, List.getElem_cons_succ, List.getElem_cons_zero, List.setIfInBounds_toArray, List.set_cons_zero, List.set_cons_succ]
    refine wpAnyH_take (i := 42) (oi := _) (v := ?_) rfl (by kernel_rfl) (by kernel_rfl) (by kernel_rfl) (fun _ _ _ h => h) (Or.inl ⟨by kernel_rfl, ?_⟩) hHeld ?_
    rotate_left
    · (intro w hSw; (try dsimp only at hSw); go_simp; try with_reducible rfl)
    try simp only [Act.put, List.getElem_toArray, List.getElem_cons_succ, List.getElem_cons_zero, List.setIfInBounds_toArray, List.set_cons_zero, List.set_cons_succ]
    refine wpAnyH_take (i := 43) (oi := _) (v := ?_) rfl (by kernel_rfl) (by kernel_rfl) (by kernel_rfl) (fun _ _ _ h => h) (Or.inl ⟨by kernel_rfl, ?_⟩) hHeld ?_
    rotate_left
    · (intro w hSw; (try dsimp only at hSw); go_simp; try with_reducible rfl)
    try simp only [Act.put, List.getElem_toArray, List.getElem_cons_succ, List.getElem_cons_zero, List.setIfInBounds_toArray, List.set_cons_zero, List.set_cons_succ]
    refine wpAnyH_ready (rs := [44]) (by kernel_rfl) (by simp) ?_
    refine AllReadyH.cons (o := _) rfl (fun K0 hK0 => ?_) AllReadyH.nil
    go_simp
    refine (SPL.out _ (by go_split_ands; assumption)).mono ?_
    rintro e9 v6 ⟨A6_, k6_, rfl, ho6_, hv6⟩
    go_wp2_with fail
    skip
    refine hK0.out _ _ (KH.out _ hv6) (fun hHeld => ?_)
    clear hK0 K0
    try simp only [Act.put, List.getElem_toArray, List.getElem_cons_succ, List.getElem_cons_zero, List.setIfInBounds_toArray, List.set_cons_zero, List.set_cons_succ]
    refine wpAnyH_take (i := 45) (oi := _) (v := ?_) rfl (by kernel_rfl) (by kernel_rfl) (by kernel_rfl) (fun _ _ _ h => h) (Or.inl ⟨by kernel_rfl, ?_⟩) hHeld ?_
    rotate_left
    · (intro w hSw; (try dsimp only at hSw); go_simp; try with_reducible rfl)
    try simp only [Act.put, List.getElem_toArray, List.getElem_cons_succ, List.getElem_cons_zero, List.setIfInBounds_toArray, List.set_cons_zero, List.set_cons_succ]
    refine wpAnyH_ready (rs := [46]) (by kernel_rfl) (by simp) ?_
    refine AllReadyH.cons (o := _) rfl (fun K0 hK0 => ?_) AllReadyH.nil
    go_simp
    refine (SML.out _ _ _ _ _ hv6 (OR.sl0 ho6_)).mono ?_
    rintro e9 v7 ⟨rfl, hv7⟩
    go_wp2_with fail
    skip
    refine hK0.out _ _ (KH.out _ hv7) (fun hHeld => ?_)
    clear hK0 K0
    try simp only [Act.put, List.getElem_toArray, List.getElem_cons_succ, List.getElem_cons_zero, List.setIfInBounds_toArray, List.set_cons_zero, List.set_cons_succ]
    refine wpAnyH_take (i := 47) (oi := _) (v := ?_) rfl (by kernel_rfl) (by kernel_rfl) (by kernel_rfl) (fun _ _ _ h => h) (Or.inl ⟨by kernel_rfl, ?_⟩) hHeld ?_
    rotate_left
    · (intro w hSw; (try dsimp only at hSw); go_simp; try with_reducible rfl)
    try simp only [Act.put, List.getElem_toArray, List.getElem_cons_succ, List.getElem_cons_zero, List.setIfInBounds_toArray, List.set_cons_zero, List.set_cons_succ]
    refine wpAnyH_take (i := 48) (oi := _) (v := ?_) rfl (by kernel_rfl) (by kernel_rfl) (by kernel_rfl) (fun _ _ _ h => h) (Or.inl ⟨by kernel_rfl, ?_⟩) hHeld ?_
    rotate_left
    · (intro w hSw; (try dsimp only at hSw); go_simp; try with_reducible rfl)
    try simp only [Act.put, List.getElem_toArray, List.getElem_cons_succ, List.getElem_cons_zero, List.setIfInBounds_toArray, List.set_cons_zero, List.set_cons_succ]
    refine wpAnyH_take (i := 49) (oi := _) (v := ?_) rfl (by kernel_rfl) (by kernel_rfl) (by kernel_rfl) (fun _ _ _ h => h) (Or.inl ⟨by kernel_rfl, ?_⟩) hHeld ?_
    rotate_left
    · (intro w hSw; (try dsimp only at hSw); go_simp; try with_reducible rfl)
    try simp only [Act.put, List.getElem_toArray, List.getElem_cons_succ, List.getElem_cons_zero, List.setIfInBounds_toArray, List.set_cons_zero, List.set_cons_succ]
    refine wpAnyH_take (i := 50) (oi := _) (v := ?_) rfl (by kernel_rfl) (by kernel_rfl) (by kernel_rfl) (fun _ _ _ h => h) (Or.inl ⟨by kernel_rfl, ?_⟩) hHeld ?_
    rotate_left
    · (intro w hSw; (try dsimp only at hSw); go_simp; try with_reducible rfl)
    try simp only [Act.put, List.getElem_toArray, List.getElem_cons_succ, List.getElem_cons_zero, List.setIfInBounds_toArray, List.set_cons_zero, List.set_cons_succ]
    refine wpAnyH_take (i := 52) (oi := _) (v := ?_) rfl (by kernel_rfl) (by kernel_rfl) (by kernel_rfl) (fun _ _ _ h => h) (Or.inl ⟨by kernel_rfl, ?_⟩) hHeld ?_
    rotate_left
    · (intro w hSw; (try dsimp only at hSw); go_simp; try with_reducible rfl)
    try simp only [Act.put, List.getElem_toArray, List.getElem_cons_succ, List.getElem_cons_zero, List.setIfInBounds_toArray, List.set_cons_zero, List.set_cons_succ]
    refine wpAnyH_ready (rs := [51]) (by kernel_rfl) (by simp) ?_
    refine AllReadyH.cons (o := _) rfl (fun K0 hK0 => ?_) AllReadyH.nil
    go_simp
    refine (ISD.out _ (by go_split_ands; assumption)).mono ?_
    rintro e9 v8 ⟨rfl, hv8⟩
    go_wp2_with fail
    skip
    refine hK0.out _ _ (KH.out _ hv8) (fun hHeld => ?_)
    clear hK0 K0
    try simp only [Act.put, List.getElem_toArray, List.getElem_cons_succ, List.getElem_cons_zero, List.setIfInBounds_toArray, List.set_cons_zero, List.set_cons_succ]
    refine wpAnyH_ready (rs := [53]) (by kernel_rfl) (by simp) ?_
    refine AllReadyH.cons (o := _) rfl (fun K0 hK0 => ?_) AllReadyH.nil
    go_simp
    refine (SSD.out _ (by go_split_ands; assumption)).mono ?_
    rintro e9 v9 ⟨rfl, hv9⟩
    go_wp2_with fail
    skip
    refine hK0.out _ _ (KH.out _ hv9) (fun hHeld => ?_)
    clear hK0 K0
    try simp only [Act.put, List.getElem_toArray, List.getElem_cons_succ, List.getElem_cons_zero, List.setIfInBounds_toArray, List.set_cons_zero, List.set_cons_succ]
    refine wpAnyH_take (i := 54) (oi := _) (v := ?_) rfl (by kernel_rfl) (by kernel_rfl) (by kernel_rfl) (fun _ _ _ h => h) (Or.inl ⟨by kernel_rfl, ?_⟩) hHeld ?_
    rotate_left
    · (intro w hSw; (try dsimp only at hSw); go_simp; try with_reducible rfl)
    try simp only [Act.put, List.getElem_toArray, List.getElem_cons_succ, List.getElem_cons_zero, List.setIfInBounds_toArray, List.set_cons_zero, List.set_cons_succ]
    refine wpAnyH_take (i := 55) (oi := _) (v := ?_) rfl (by kernel_rfl) (by kernel_rfl) (by kernel_rfl) (fun _ _ _ h => h) (Or.inl ⟨by kernel_rfl, ?_⟩) hHeld ?_
    rotate_left
    · (intro w hSw; (try dsimp only at hSw); go_simp; try with_reducible rfl)
    try simp only [Act.put, List.getElem_toArray, List.getElem_cons_succ, List.getElem_cons_zero, List.setIfInBounds_toArray, List.set_cons_zero, List.set_cons_succ]
    refine wpAnyH_take (i := 56) (oi := _) (v := ?_) rfl (by kernel_rfl) (by kernel_rfl) (by kernel_rfl) (fun _ _ _ h => h) (Or.inl ⟨by kernel_rfl, ?_⟩) hHeld ?_
    rotate_left
    · (intro w hSw; (try dsimp only at hSw); go_simp; try with_reducible rfl)
    try simp only [Act.put, List.getElem_toArray, List.getElem_cons_succ, List.getElem_cons_zero, List.setIfInBounds_toArray, List.set_cons_zero, List.set_cons_succ]
    refine wpAnyH_take (i := 57) (oi := _) (v := ?_) rfl (by kernel_rfl) (by kernel_rfl) (by kernel_rfl) (fun _ _ _ h => h) (Or.inl ⟨by kernel_rfl, ?_⟩) hHeld ?_
    rotate_left
    · (intro w hSw; (try dsimp only at hSw); go_simp; try with_reducible rfl)
    try simp only [Act.put, List.getElem_toArray, List.getElem_cons_succ, List.getElem_cons_zero, List.setIfInBounds_toArray, List.set_cons_zero, List.set_cons_succ]
    refine wpAnyH_take (i := 58) (oi := _) (v := ?_) rfl (by kernel_rfl) (by kernel_rfl) (by kernel_rfl) (fun _ _ _ h => h) (Or.inl ⟨by kernel_rfl, ?_⟩) hHeld ?_
    rotate_left
    · (intro w hSw; (try dsimp only at hSw); go_simp; try with_reducible rfl)
    try simp only [Act.put, List.getElem_toArray, List.getElem_cons_succ, List.getElem_cons_zero, List.setIfInBounds_toArray, List.set_cons_zero, List.set_cons_succ]
    refine wpAnyH_take (i := 60) (oi := _) (v := ?_) rfl (by kernel_rfl) (by kernel_rfl) (by kernel_rfl) (fun _ _ _ h => h) (Or.inl ⟨by kernel_rfl, ?_⟩) hHeld ?_
    rotate_left
    · (intro w hSw; (try dsimp only at hSw); go_simp; try with_reducible rfl)
    try simp only [Act.put, List.getElem_toArray, List.getElem_cons_succ, List.getElem_cons_zero, List.setIfInBounds_toArray, List.set_cons_zero, List.set_cons_succ]
    refine wpAnyH_take (i := 61) (oi := _) (v := ?_) rfl (by kernel_rfl) (by kernel_rfl) (by kernel_rfl) (fun _ _ _ h => h) (Or.inl ⟨by kernel_rfl, ?_⟩) hHeld ?_
    rotate_left
    · (intro w hSw; (try dsimp only at hSw); go_simp; try with_reducible rfl)
    try simp only [Act.put, List.getElem_toArray, List.getElem_cons_succ, List.getElem_cons_zero, List.setIfInBounds_toArray, List.set_cons_zero, List.set_cons_succ]
    refine wpAnyH_ready (rs := [59]) (by kernel_rfl) (by simp) ?_
    refine AllReadyH.cons (o := _) rfl (fun K0 hK0 => ?_) AllReadyH.nil
    go_simp
    refine (ISM.out _ (by go_split_ands; assumption)).mono ?_
    rintro e9 va ⟨rfl, hva⟩
    go_wp2_with fail
    skip
    refine hK0.out _ _ (KH.out _ hva) (fun hHeld => ?_)
    clear hK0 K0
    try simp only [Act.put, List.getElem_toArray, List.getElem_cons_succ, List.getElem_cons_zero, List.setIfInBounds_toArray, List.set_cons_zero, List.set_cons_succ]
    refine wpAnyH_ready (rs := [62]) (by kernel_rfl) (by simp) ?_
    refine AllReadyH.cons (o := _) rfl (fun K0 hK0 => ?_) AllReadyH.nil
    go_simp
    refine (SSM.out _ (by go_split_ands; assumption)).mono ?_
    rintro e9 vb ⟨rfl, hvb⟩
    go_wp2_with fail
    skip
    refine hK0.out _ _ (KH.out _ hvb) (fun hHeld => ?_)
    clear hK0 K0
    try simp only [Act.put, List.getElem_toArray, List.getElem_cons_succ, List.getElem_cons_zero, List.setIfInBounds_toArray, List.set_cons_zero, List.set_cons_succ]
    refine wpAnyH_take (i := 63) (oi := _) (v := ?_) rfl (by kernel_rfl) (by kernel_rfl) (by kernel_rfl) (fun _ _ _ h => h) (Or.inl ⟨by kernel_rfl, ?_⟩) hHeld ?_
    rotate_left
    · (intro w hSw; (try dsimp only at hSw); go_simp; try with_reducible rfl)
    try simp only [Act.put, List.getElem_toArray, List.getElem_cons_succ, List.getElem_cons_zero, List.setIfInBounds_toArray, List.set_cons_zero, List.set_cons_succ]
    refine wpAnyH_take (i := 64) (oi := _) (v := ?_) rfl (by kernel_rfl) (by kernel_rfl) (by kernel_rfl) (fun _ _ _ h => h) (Or.inl ⟨by kernel_rfl, ?_⟩) hHeld ?_
    rotate_left
    · (intro w hSw; (try dsimp only at hSw); go_simp; try with_reducible rfl)
    try simp only [Act.put, List.getElem_toArray, List.getElem_cons_succ, List.getElem_cons_zero, List.setIfInBounds_toArray, List.set_cons_zero, List.set_cons_succ]
    refine wpAnyH_take (i := 65) (oi := _) (v := ?_) rfl (by kernel_rfl) (by kernel_rfl) (by kernel_rfl) (fun _ _ _ h => h) (Or.inl ⟨by kernel_rfl, ?_⟩) hHeld ?_
    rotate_left
    · (intro w hSw; (try dsimp only at hSw); go_simp; try with_reducible rfl)
    try simp only [Act.put, List.getElem_toArray, List.getElem_cons_succ, List.getElem_cons_zero, List.setIfInBounds_toArray, List.set_cons_zero, List.set_cons_succ]
    refine wpAnyH_take (i := 66) (oi := _) (v := ?_) rfl (by kernel_rfl) (by kernel_rfl) (by kernel_rfl) (fun _ _ _ h => h) (Or.inl ⟨by kernel_rfl, ?_⟩) hHeld ?_
    rotate_left
    · (intro w hSw; (try dsimp only at hSw); go_simp; try with_reducible rfl)
    try simp only [Act.put, List.getElem_toArray, List.getElem_cons_succ, List.getElem_cons_zero, List.setIfInBounds_toArray, List.set_cons_zero, List.set_cons_succ]
    refine wpAnyH_take (i := 68) (oi := _) (v := ?_) rfl (by kernel_rfl) (by kernel_rfl) (by kernel_rfl) (fun _ _ _ h => h) (Or.inl ⟨by kernel_rfl, ?_⟩) hHeld ?_
    rotate_left
    · (intro w hSw; (try dsimp only at hSw); go_simp; try with_reducible rfl)
    try simp only [Act.put, List.getElem_toArray, List.getElem_cons_succ, List.getElem_cons_zero, List.setIfInBounds_toArray, List.set_cons_zero, List.set_cons_succ]
    refine wpAnyH_ready (rs := [67]) (by kernel_rfl) (by simp) ?_
    refine AllReadyH.cons (o := _) rfl (fun K0 hK0 => ?_) AllReadyH.nil
    go_simp
    refine (ISF.out _ (by go_split_ands; assumption)).mono ?_
    rintro e9 vc ⟨rfl, hvc⟩
    go_wp2_with fail
    skip
    refine hK0.out _ _ (KH.out _ hvc) (fun hHeld => ?_)
    clear hK0 K0
    try simp only [Act.put, List.getElem_toArray, List.getElem_cons_succ, List.getElem_cons_zero, List.setIfInBounds_toArray, List.set_cons_zero, List.set_cons_succ]
    refine wpAnyH_ready (rs := [69]) (by kernel_rfl) (by simp) ?_
    refine AllReadyH.cons (o := _) rfl (fun K0 hK0 => ?_) AllReadyH.nil
    go_simp
    refine (SSF.out _ (by go_split_ands; assumption)).mono ?_
    rintro e9 vd ⟨rfl, hvd⟩
    go_wp2_with fail
    skip
    refine hK0.out _ _ (KH.out _ hvd) (fun hHeld => ?_)
    clear hK0 K0
    try simp only [Act.put, List.getElem_toArray, List.getElem_cons_succ, List.getElem_cons_zero, List.setIfInBounds_toArray, List.set_cons_zero, List.set_cons_succ]
    refine wpAnyH_take (i := 70) (oi := _) (v := ?_) rfl (by kernel_rfl) (by kernel_rfl) (by kernel_rfl) (fun _ _ _ h => h) (Or.inl ⟨by kernel_rfl, ?_⟩) hHeld ?_
    rotate_left
    · (intro w hSw; (try dsimp only at hSw); go_simp; try with_reducible rfl)
    try simp only [Act.put, List.getElem_toArray, List.getElem_cons_succ, List.getElem_cons_zero, List.setIfInBounds_toArray, List.set_cons_zero, List.set_cons_succ]
    refine wpAnyH_take (i := 71) (oi := _) (v := ?_) rfl (by kernel_rfl) (by kernel_rfl) (by kernel_rfl) (fun _ _ _ h => h) (Or.inl ⟨by kernel_rfl, ?_⟩) hHeld ?_
    rotate_left
    · (intro w hSw; (try dsimp only at hSw); go_simp; try with_reducible rfl)
    try simp only [Act.put, List.getElem_toArray, List.getElem_cons_succ, List.getElem_cons_zero, List.setIfInBounds_toArray, List.set_cons_zero, List.set_cons_succ]
    refine wpAnyH_done (by kernel_rfl) ?_ _
    clear hHeld
    go_wp2_with fail
    go_meet
    exact ⟨rfl, hvd⟩
  case rest =>
    rename World => v9
    obtain ⟨rfl, hb⟩ := hcut
    have BA := Lib.hid hb
    clear hb SPJ SPL SMJ SML ISD SSD ISM SSM ISF SSF KH
    by_cases hp : jq = 0
    case neg =>
      have z0 : (jq == 0) = false := by simp [hp]
      obtain ⟨_, ⟨t0, t1, t2, t3, t4⟩, _, _, _, _, _, _, _, _, _, _, _⟩ := F.out v9 BA.out
      go_upto_region 15 with (fail)
      clear t0 t1 t2 t3 t4 z0
      obtain ⟨_, _, ⟨u0, u1⟩, ⟨v0, v1, v2, v3, v4⟩, _, _, _, _, _, hr4, _, _, bw⟩ := F.out v9 BA.out
      go_upto_region 15 with (fail)
      by_cases hl : lq = 0
      case neg =>
        have z : (lq != 0) = true := by simp [hl]
        have BW := Lib.hid bw
        clear bw hr4
        go_wp2
        go_ret
        exact ⟨rfl, BW.out⟩
      obtain ⟨g1, g2, g3⟩ := leave_good EQL.out hl
      subst hl
      have SFC := Lib.hid (implSchedFault_any _ _ Q4 d4 lb ls v9 (by have := LL.out; omega) hr4)
      rw [g1] at SFC
      have wr1 : IntKind.i64.wrap ((xs3.length : Int) - 1) = (ls.length : Int) := by rw [IntWalk.i64_in _ (by omega)]; omega
      have el : ((ls.length : Int) == (ls.length : Int)) = true := by simp
      have el2 : (ls.length == ls.length) = true := by simp
      have eg : decide (b3 ≤ lb) = true := decide_eq_true g3
      have z : ((0 : Int) != 0) = false := by simp
      have z2 : ((0 : Int) == 0) = true := by simp
      clear bw hr4 g1 g2 u0 u1 v0 v1 v2 v3 v4
      obtain ⟨_, _, ⟨u0, u1⟩, ⟨v0, v1, v2, v3, v4⟩, _, _, _, _, _, _, _, _, _⟩ := F.out v9 BA.out
      go_wp2_with fail
      refine SFC.out.mono ?_
      rintro e9 ve ⟨rfl, hb⟩
      have BE := Lib.hid (BA.out.trans (hb.mono BA.out.size))
      clear hb SFC u0 u1 v0 v1 v2 v3 v4
      obtain ⟨_, _, ⟨u0, u1⟩, ⟨v0, v1, v2, v3, v4⟩, _, _, _, _, _, _, _, _, bw⟩ := F.out ve BE.out
      have BW := Lib.hid bw
      clear bw
      go_wp2
      go_ret
      exact ⟨rfl, BW.out⟩
    obtain ⟨g1, g2, g3⟩ := join_good EQJ.out hp
    subst hp
    obtain ⟨kq, ki, kr, kb, ks, hq⟩ : ∃ k0 k1 k2 k3 k4, leave5 jb js i1 = (k0, k1, k2, k3, k4) := ⟨_, _, _, _, _, rfl⟩
    have LK : Hid (ks.length ≤ 6) := by have := leave5_len jb js i1; rw [hq] at this; exact this
    rw [hq] at g2 g3
    obtain rfl : kq = 0 := g2
    have G3 : Hid (xs1 ≠ [] → kb = b1 ∧ ks = xs1) := fun e => by have := g3 e; injection this with a b; exact ⟨a, b⟩
    have z0 : ((0 : Int) == 0) = true := by simp
    obtain ⟨_, ⟨t0, t1, t2, t3, t4⟩, _, _, _, _, _, hr2, _, _, _, _, _⟩ := F.out v9 BA.out
    have IP0 := implLeaveSched_any _ _ Q2 d2 jb js i1 v9 (by have := LJ.out; omega) hr2
    rw [hq] at IP0
    have IP1 := Lib.hid IP0
    have G1 := Lib.hid g1
    clear hq IP0 g1 g3 hr2
    go_wp2_with fail
    refine IP1.out.mono ?_
    rintro e9 va ⟨Q7, d7, rfl, ho, hb⟩
    dsimp only
    have O7 := Lib.hid ho
    have BB := Lib.hid (BA.out.trans (hb.mono BA.out.size))
    clear ho hb IP1 t0 t1 t2 t3 t4
    obtain ⟨vb, hvb⟩ : ∃ V, V = va.alloc (.cells #[.int .i64 0, .int .i64 ki, .int .i64 kr, .int .i64 kb, .slice Q7 ks.length d7] 56) := ⟨_, rfl⟩
    obtain ⟨q7, hq7⟩ : ∃ q, q = va.heap.size := ⟨_, rfl⟩
    have K7 : Hid (vb.heap[q7]? = some (.cells #[.int .i64 0, .int .i64 ki, .int .i64 kr, .int .i64 kb, .slice Q7 ks.length d7] 56 (0, 0))) := by show _ = _; rw [hvb, hq7]; exact heap_alloc_new va _
    have BC : Hid (Below wy.heap.size wy vb) := by rw [hvb]; exact BB.out.alloc BB.out.size _
    have R7 : Hid (RS vb v9.heap.size va.heap.size Q7 ks) := by rw [hvb]; exact (OR.sl0 O7.out).below (below_new va _) (Nat.le_refl _)
    have Z7 : Hid (va.heap.size ≤ vb.heap.size) := by show _ ≤ _; rw [hvb]; simp
    have HVB := Lib.hid hvb; have HQ7 := Lib.hid hq7
    clear hvb hq7 BB O7
    go_upto_region 13 with (fail)
    rw [← HVB.out, ← HQ7.out]
    clear HVB HQ7
    obtain ⟨_, ⟨t0, t1, t2, t3, t4⟩, _, _, _, _, _, hr2, _, _, _, _, _⟩ := F.out vb BC.out
    have SFC := Lib.hid (implSchedFault_any _ _ Q2 d2 jb js vb (by have := LJ.out; omega) hr2)
    rw [G1.out] at SFC
    clear hr2
    have z1 : ((0 : Int) != 0) = false := by simp
    go_wp2_with fail
    refine SFC.out.mono ?_
    rintro e9 vc ⟨rfl, hb⟩
    have BD := Lib.hid (BC.out.trans (hb.mono BC.out.size))
    have K8 := Lib.hid ((hb.block q7 (Array.getElem?_eq_some_iff.1 K7.out).1).trans K7.out)
    have R8 : Hid (RS vc v9.heap.size va.heap.size Q7 ks) := Sl.below R7.out hb Z7.out
    clear hb SFC t0 t1 t2 t3 t4 K7 R7 BC
    obtain ⟨⟨s0, s1⟩, _, _, _, _, _, _, _, _, _, _, _, _⟩ := F.out vc BD.out
    have r0 := cell_of_row vc _ 0 _ _ _ K8.out; have r1 := cell_of_row vc _ 1 _ _ _ K8.out; have r2 := cell_of_row vc _ 2 _ _ _ K8.out; have r3 := cell_of_row vc _ 3 _ _ _ K8.out; have r4 := cell_of_row vc _ 4 _ _ _ K8.out
    simp at r0 r1 r2 r3 r4
    by_cases hx : 0 < xs1.length
    case neg =>
      have hxI : ¬ (0 : Int) < (xs1.length : Int) := by omega
      have hxd : decide ((0 : Int) < (xs1.length : Int)) = false := decide_eq_false hxI
      have hxn : decide (0 < xs1.length) = false := decide_eq_false hx
      go_upto_region 15 with (fail)
      clear s0 s1 r0 r1 r2 r3 r4
      obtain ⟨_, _, ⟨u0, u1⟩, ⟨v0, v1, v2, v3, v4⟩, _, _, _, _, _, hr4, _, _, bw⟩ := F.out vc BD.out
      go_upto_region 15 with (fail)
      by_cases hl : lq = 0
      case neg =>
        have z : (lq != 0) = true := by simp [hl]
        have BW := Lib.hid bw
        clear bw hr4
        go_wp2
        go_ret
        exact ⟨rfl, BW.out⟩
      obtain ⟨g1, g2, g3⟩ := leave_good EQL.out hl
      subst hl
      have SFC := Lib.hid (implSchedFault_any _ _ Q4 d4 lb ls vc (by have := LL.out; omega) hr4)
      rw [g1] at SFC
      have wr1 : IntKind.i64.wrap ((xs3.length : Int) - 1) = (ls.length : Int) := by rw [IntWalk.i64_in _ (by omega)]; omega
      have el : ((ls.length : Int) == (ls.length : Int)) = true := by simp
      have el2 : (ls.length == ls.length) = true := by simp
      have eg : decide (b3 ≤ lb) = true := decide_eq_true g3
      have z : ((0 : Int) != 0) = false := by simp
      have z2 : ((0 : Int) == 0) = true := by simp
      clear bw hr4 g1 g2 u0 u1 v0 v1 v2 v3 v4
      obtain ⟨_, _, ⟨u0, u1⟩, ⟨v0, v1, v2, v3, v4⟩, _, _, _, _, _, _, _, _, _⟩ := F.out vc BD.out
      go_wp2_with fail
      refine SFC.out.mono ?_
      rintro e9 ve ⟨rfl, hb⟩
      have BE := Lib.hid (BD.out.trans (hb.mono BD.out.size))
      clear hb SFC u0 u1 v0 v1 v2 v3 v4
      obtain ⟨_, _, ⟨u0, u1⟩, ⟨v0, v1, v2, v3, v4⟩, _, _, _, _, _, _, _, _, bw⟩ := F.out ve BE.out
      have BW := Lib.hid bw
      clear bw
      go_wp2
      go_ret
      exact ⟨rfl, BW.out⟩
    have hxI : (0 : Int) < (xs1.length : Int) := by omega
    have hxd : decide ((0 : Int) < (xs1.length : Int)) = true := decide_eq_true hxI
    have hxn : decide (0 < xs1.length) = true := decide_eq_true hx
    obtain ⟨e1, e2⟩ := G3.out (List.length_pos_iff.1 hx)
    subst e1
    subst e2
    obtain ⟨_, _, _, _, _, _, hr1, _, _, _, _, _, _⟩ := F.out vc BD.out
    have SMC := Lib.hid (implSameScheds_any _ _ _ _ Q7 d7 B1 c1 kb kb ks ks vc (by have := LK.out; omega) R8.out hr1)
    rw [decide_eq_true ⟨rfl, rfl⟩] at SMC
    clear hr1 R8
    go_wp2_with fail
    refine SMC.out.mono ?_
    rintro e9 vd ⟨rfl, hb⟩
    have BE2 := Lib.hid (BD.out.trans (hb.mono BD.out.size))
    clear hb SMC s0 s1 r0 r1 r2 r3 r4
    go_upto_region 15 with (fail)
    obtain ⟨_, _, ⟨u0, u1⟩, ⟨v0, v1, v2, v3, v4⟩, _, _, _, _, _, hr4, _, _, bw⟩ := F.out vd BE2.out
    go_upto_region 15 with (fail)
    by_cases hl : lq = 0
    case neg =>
      have z : (lq != 0) = true := by simp [hl]
      have BW := Lib.hid bw
      clear bw hr4
      go_wp2
      go_ret
      exact ⟨rfl, BW.out⟩
    obtain ⟨g1, g2, g3⟩ := leave_good EQL.out hl
    subst hl
    have SFC := Lib.hid (implSchedFault_any _ _ Q4 d4 lb ls vd (by have := LL.out; omega) hr4)
    rw [g1] at SFC
    have wr1 : IntKind.i64.wrap ((xs3.length : Int) - 1) = (ls.length : Int) := by rw [IntWalk.i64_in _ (by omega)]; omega
    have el : ((ls.length : Int) == (ls.length : Int)) = true := by simp
    have el2 : (ls.length == ls.length) = true := by simp
    have eg : decide (b3 ≤ lb) = true := decide_eq_true g3
    have z : ((0 : Int) != 0) = false := by simp
    have z2 : ((0 : Int) == 0) = true := by simp
    clear bw hr4 g1 g2 u0 u1 v0 v1 v2 v3 v4
    obtain ⟨_, _, ⟨u0, u1⟩, ⟨v0, v1, v2, v3, v4⟩, _, _, _, _, _, _, _, _, _⟩ := F.out vd BE2.out
    go_wp2_with fail
    refine SFC.out.mono ?_
    rintro e9 ve ⟨rfl, hb⟩
    have BE := Lib.hid (BE2.out.trans (hb.mono BE2.out.size))
    clear hb SFC u0 u1 v0 v1 v2 v3 v4
    obtain ⟨_, _, ⟨u0, u1⟩, ⟨v0, v1, v2, v3, v4⟩, _, _, _, _, _, _, _, _, bw⟩ := F.out ve BE.out
    have BW := Lib.hid bw
    clear bw
    go_wp2
    go_ret
    exact ⟨rfl, BW.out⟩

end Go.Proofs.Ytckapndpefkcgaa
