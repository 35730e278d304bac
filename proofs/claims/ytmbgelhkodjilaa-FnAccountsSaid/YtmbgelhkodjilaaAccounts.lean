/-
  For every code, FnAccounts returns true and leaves the code as it was. No conditions.
-/
import Derived.Test.YtmbgelhkodjilaaDraw2
import Derived.Test.YtmbgelhkodjilaaAcc2
import Derived.Test.YtmbgelhkodjilaaImplAcc2
import Derived.Test.YtmbgelhkodjilaaBig
import Derived.Deep.RegionHeld3
namespace Go.Proofs.Ytmbgelhkodjilaa
open Go.RowKit

theorem run_neq_res (q u x g d : Int) (z : Bool) (W : World) : (binOp .neq 28 (.agg #[.int .i64 q, .int .i64 u, .int .i64 x, .int .i64 g, .int .i64 d, .bool z]) (.agg #[.int .i64 q, .int .i64 u, .int .i64 x, .int .i64 g, .int .i64 d, .bool z])).run Try.prog W = .ok (.bool false) W := by
  simp [go_sem]

theorem run_neq_acc (u x g d : Int) (W : World) : (binOp .neq 25 (.agg #[.int .i64 u, .int .i64 x, .int .i64 g, .int .i64 d]) (.agg #[.int .i64 u, .int .i64 x, .int .i64 g, .int .i64 d])).run Try.prog W = .ok (.bool false) W := by
  simp [go_sem]
theorem run_fl1 (q u x g d : Int) (z : Bool) (W : World) : (Instr.field 28 (.agg #[.int .i64 q, .int .i64 u, .int .i64 x, .int .i64 g, .int .i64 d, .bool z]) 1).run Try.prog W = .ok (.agg #[.int .i64 u, .int .i64 x, .int .i64 g, .int .i64 d]) W := by kernel_rfl

set_option maxHeartbeats 8000000 in
set_option maxRecDepth 100000 in
theorem walkAccounts (A : Option Addr) (k c : Nat) (b : Nat → Int) (w : World) (h : Sl w 0 w.heap.size A k (fun j => .int .u8 (b j))) (hb : ∀ j, 0 ≤ b j ∧ b j ≤ 255) (hk : k ≤ 1048576) :
    Calls Try.prog 3 #[.slice A k c] w fun e w' => e = .returned (.bool true) ∧ Below w.heap.size w w' := by
  have H := Lib.hid h
  have HBY := Lib.hid hb
  clear h hb
  go_enter Try.func3, Try.ntmps3
  go_wp2_with fail
  refine (lwBig_any A k c w).mono ?_
  rintro e w' ⟨rfl, rfl⟩
  have BW0 : Hid (Below w.heap.size w w) := Below.refl _ _
  have HC0 := H
  go_wp2_with fail
  refine (DrawPunishAccount_any _ _ A k c b _ (by omega) HBY.out HC0.out).mono ?_
  rintro e w1 ⟨up, xp, gp, dp, rfl, hb⟩
  have sz1 : w.heap.size ≤ w1.heap.size := hb.size
  have BW1 := Lib.hid (BW0.out.trans (hb.mono (by first | omega | (simp only [World.size_alloc]; omega))))
  have HC1 := Lib.hid (HC0.out.below hb (by first | omega | (simp only [World.size_alloc]; omega)))
  clear hb BW0 HC0
  have hb := below_new w1 (.cells #[.int .i64 up, .int .i64 xp, .int .i64 gp, .int .i64 dp] 25)
  have sz2 : w1.heap.size + 1 = (w1.alloc (.cells #[.int .i64 up, .int .i64 xp, .int .i64 gp, .int .i64 dp] 25)).heap.size := by simp
  have BW2 := Lib.hid (BW1.out.trans (hb.mono (by omega)))
  have HC2 := Lib.hid (HC1.out.below hb (by omega))
  clear hb BW1 HC1
  rw [World.size_alloc] at sz2
  have Ap2 := Lib.hid (heap_alloc_new w1 (.cells #[.int .i64 up, .int .i64 xp, .int .i64 gp, .int .i64 dp] 25))
  obtain ⟨Qp, Up, Xp, Gp, Dp, Zp, hr⟩ := six (pun2 up xp gp dp)
  have HRp := Lib.hid hr
  clear hr
  have q0Ap := cell_of_row (w1.alloc (.cells #[.int .i64 up, .int .i64 xp, .int .i64 gp, .int .i64 dp] 25)) _ 0 _ _ _ Ap2.out
  have q1Ap := cell_of_row (w1.alloc (.cells #[.int .i64 up, .int .i64 xp, .int .i64 gp, .int .i64 dp] 25)) _ 1 _ _ _ Ap2.out
  have q2Ap := cell_of_row (w1.alloc (.cells #[.int .i64 up, .int .i64 xp, .int .i64 gp, .int .i64 dp] 25)) _ 2 _ _ _ Ap2.out
  have q3Ap := cell_of_row (w1.alloc (.cells #[.int .i64 up, .int .i64 xp, .int .i64 gp, .int .i64 dp] 25)) _ 3 _ _ _ Ap2.out
  simp at q0Ap q1Ap q2Ap q3Ap
  go_wp2_with fail
  clear q0Ap q1Ap q2Ap q3Ap
  have C := implPunishAccount_any up xp gp dp (w1.alloc (.cells #[.int .i64 up, .int .i64 xp, .int .i64 gp, .int .i64 dp] 25))
  rw [HRp.out, rv_eq] at C
  refine (C).mono ?_
  rintro e w3 ⟨rfl, hb⟩
  have sz3 : (w1.alloc (.cells #[.int .i64 up, .int .i64 xp, .int .i64 gp, .int .i64 dp] 25)).heap.size ≤ w3.heap.size := hb.size
  rw [World.size_alloc] at sz3
  have BW3 := Lib.hid (BW2.out.trans (hb.mono (by first | omega | (simp only [World.size_alloc]; omega))))
  have HC3 := Lib.hid (HC2.out.below hb (by first | omega | (simp only [World.size_alloc]; omega)))
  have Ap3 := Lib.hid ((hb.block _ (by first | omega | (simp only [World.size_alloc]; omega))).trans Ap2.out)
  clear hb BW2 HC2 Ap2
  clear C
  have hb := below_new w3 (.cells #[.int .i64 Qp, .int .i64 Up, .int .i64 Xp, .int .i64 Gp, .int .i64 Dp, .bool Zp] 28)
  have sz4 : w3.heap.size + 1 = (w3.alloc (.cells #[.int .i64 Qp, .int .i64 Up, .int .i64 Xp, .int .i64 Gp, .int .i64 Dp, .bool Zp] 28)).heap.size := by simp
  have BW4 := Lib.hid (BW3.out.trans (hb.mono (by omega)))
  have HC4 := Lib.hid (HC3.out.below hb (by omega))
  have Ap4 := Lib.hid ((hb.block _ (by omega)).trans Ap3.out)
  clear hb BW3 HC3 Ap3
  rw [World.size_alloc] at sz4
  have Rp4 := Lib.hid (heap_alloc_new w3 (.cells #[.int .i64 Qp, .int .i64 Up, .int .i64 Xp, .int .i64 Gp, .int .i64 Dp, .bool Zp] 28))
  go_wp2_with fail
  refine (DrawSkipAccount_any _ _ A k c b _ (by omega) HBY.out HC4.out).mono ?_
  rintro e w5 ⟨us, xs, gs, ds, rfl, hb⟩
  have sz5 : (w3.alloc (.cells #[.int .i64 Qp, .int .i64 Up, .int .i64 Xp, .int .i64 Gp, .int .i64 Dp, .bool Zp] 28)).heap.size ≤ w5.heap.size := hb.size
  rw [World.size_alloc] at sz5
  have BW5 := Lib.hid (BW4.out.trans (hb.mono (by first | omega | (simp only [World.size_alloc]; omega))))
  have HC5 := Lib.hid (HC4.out.below hb (by first | omega | (simp only [World.size_alloc]; omega)))
  have Ap5 := Lib.hid ((hb.block _ (by first | omega | (simp only [World.size_alloc]; omega))).trans Ap4.out)
  have Rp5 := Lib.hid ((hb.block _ (by first | omega | (simp only [World.size_alloc]; omega))).trans Rp4.out)
  clear hb BW4 HC4 Ap4 Rp4
  have hb := below_new w5 (.cells #[.int .i64 us, .int .i64 xs, .int .i64 gs, .int .i64 ds] 25)
  have sz6 : w5.heap.size + 1 = (w5.alloc (.cells #[.int .i64 us, .int .i64 xs, .int .i64 gs, .int .i64 ds] 25)).heap.size := by simp
  have BW6 := Lib.hid (BW5.out.trans (hb.mono (by omega)))
  have HC6 := Lib.hid (HC5.out.below hb (by omega))
  have Ap6 := Lib.hid ((hb.block _ (by omega)).trans Ap5.out)
  have Rp6 := Lib.hid ((hb.block _ (by omega)).trans Rp5.out)
  clear hb BW5 HC5 Ap5 Rp5
  rw [World.size_alloc] at sz6
  have As6 := Lib.hid (heap_alloc_new w5 (.cells #[.int .i64 us, .int .i64 xs, .int .i64 gs, .int .i64 ds] 25))
  obtain ⟨Qs, Us, Xs, Gs, Ds, Zs, hr⟩ := six (skip2 us xs gs ds)
  have HRs := Lib.hid hr
  clear hr
  have q0As := cell_of_row (w5.alloc (.cells #[.int .i64 us, .int .i64 xs, .int .i64 gs, .int .i64 ds] 25)) _ 0 _ _ _ As6.out
  have q1As := cell_of_row (w5.alloc (.cells #[.int .i64 us, .int .i64 xs, .int .i64 gs, .int .i64 ds] 25)) _ 1 _ _ _ As6.out
  have q2As := cell_of_row (w5.alloc (.cells #[.int .i64 us, .int .i64 xs, .int .i64 gs, .int .i64 ds] 25)) _ 2 _ _ _ As6.out
  have q3As := cell_of_row (w5.alloc (.cells #[.int .i64 us, .int .i64 xs, .int .i64 gs, .int .i64 ds] 25)) _ 3 _ _ _ As6.out
  simp at q0As q1As q2As q3As
  go_wp2_with fail
  clear q0As q1As q2As q3As
  have C := implSkipAccount_any us xs gs ds (w5.alloc (.cells #[.int .i64 us, .int .i64 xs, .int .i64 gs, .int .i64 ds] 25))
  rw [HRs.out, rv_eq] at C
  refine (C).mono ?_
  rintro e w7 ⟨rfl, hb⟩
  have sz7 : (w5.alloc (.cells #[.int .i64 us, .int .i64 xs, .int .i64 gs, .int .i64 ds] 25)).heap.size ≤ w7.heap.size := hb.size
  rw [World.size_alloc] at sz7
  have BW7 := Lib.hid (BW6.out.trans (hb.mono (by first | omega | (simp only [World.size_alloc]; omega))))
  have HC7 := Lib.hid (HC6.out.below hb (by first | omega | (simp only [World.size_alloc]; omega)))
  have Ap7 := Lib.hid ((hb.block _ (by first | omega | (simp only [World.size_alloc]; omega))).trans Ap6.out)
  have Rp7 := Lib.hid ((hb.block _ (by first | omega | (simp only [World.size_alloc]; omega))).trans Rp6.out)
  have As7 := Lib.hid ((hb.block _ (by first | omega | (simp only [World.size_alloc]; omega))).trans As6.out)
  clear hb BW6 HC6 Ap6 Rp6 As6
  clear C
  have hb := below_new w7 (.cells #[.int .i64 Qs, .int .i64 Us, .int .i64 Xs, .int .i64 Gs, .int .i64 Ds, .bool Zs] 28)
  have sz8 : w7.heap.size + 1 = (w7.alloc (.cells #[.int .i64 Qs, .int .i64 Us, .int .i64 Xs, .int .i64 Gs, .int .i64 Ds, .bool Zs] 28)).heap.size := by simp
  have BW8 := Lib.hid (BW7.out.trans (hb.mono (by omega)))
  have HC8 := Lib.hid (HC7.out.below hb (by omega))
  have Ap8 := Lib.hid ((hb.block _ (by omega)).trans Ap7.out)
  have Rp8 := Lib.hid ((hb.block _ (by omega)).trans Rp7.out)
  have As8 := Lib.hid ((hb.block _ (by omega)).trans As7.out)
  clear hb BW7 HC7 Ap7 Rp7 As7
  rw [World.size_alloc] at sz8
  have Rs8 := Lib.hid (heap_alloc_new w7 (.cells #[.int .i64 Qs, .int .i64 Us, .int .i64 Xs, .int .i64 Gs, .int .i64 Ds, .bool Zs] 28))
  go_wp2_with fail
  refine (DrawUseTick_any _ _ A k c b _ (by omega) HBY.out HC8.out).mono ?_
  rintro e w9 ⟨ut, xt, gt, dt, late, rfl, hb⟩
  have sz9 : (w7.alloc (.cells #[.int .i64 Qs, .int .i64 Us, .int .i64 Xs, .int .i64 Gs, .int .i64 Ds, .bool Zs] 28)).heap.size ≤ w9.heap.size := hb.size
  rw [World.size_alloc] at sz9
  have BW9 := Lib.hid (BW8.out.trans (hb.mono (by first | omega | (simp only [World.size_alloc]; omega))))
  have HC9 := Lib.hid (HC8.out.below hb (by first | omega | (simp only [World.size_alloc]; omega)))
  have Ap9 := Lib.hid ((hb.block _ (by first | omega | (simp only [World.size_alloc]; omega))).trans Ap8.out)
  have Rp9 := Lib.hid ((hb.block _ (by first | omega | (simp only [World.size_alloc]; omega))).trans Rp8.out)
  have As9 := Lib.hid ((hb.block _ (by first | omega | (simp only [World.size_alloc]; omega))).trans As8.out)
  have Rs9 := Lib.hid ((hb.block _ (by first | omega | (simp only [World.size_alloc]; omega))).trans Rs8.out)
  clear hb BW8 HC8 Ap8 Rp8 As8 Rs8
  have hb := below_new w9 (.cells #[.int .i64 ut, .int .i64 xt, .int .i64 gt, .int .i64 dt] 25)
  have sz10 : w9.heap.size + 1 = (w9.alloc (.cells #[.int .i64 ut, .int .i64 xt, .int .i64 gt, .int .i64 dt] 25)).heap.size := by simp
  have BW10 := Lib.hid (BW9.out.trans (hb.mono (by omega)))
  have HC10 := Lib.hid (HC9.out.below hb (by omega))
  have Ap10 := Lib.hid ((hb.block _ (by omega)).trans Ap9.out)
  have Rp10 := Lib.hid ((hb.block _ (by omega)).trans Rp9.out)
  have As10 := Lib.hid ((hb.block _ (by omega)).trans As9.out)
  have Rs10 := Lib.hid ((hb.block _ (by omega)).trans Rs9.out)
  clear hb BW9 HC9 Ap9 Rp9 As9 Rs9
  rw [World.size_alloc] at sz10
  have At10 := Lib.hid (heap_alloc_new w9 (.cells #[.int .i64 ut, .int .i64 xt, .int .i64 gt, .int .i64 dt] 25))
  obtain ⟨Qt, Ut, Xt, Gt, Dt, Zt, hr⟩ := six (use2 ut xt gt dt late)
  have HRt := Lib.hid hr
  clear hr
  have q0At := cell_of_row (w9.alloc (.cells #[.int .i64 ut, .int .i64 xt, .int .i64 gt, .int .i64 dt] 25)) _ 0 _ _ _ At10.out
  have q1At := cell_of_row (w9.alloc (.cells #[.int .i64 ut, .int .i64 xt, .int .i64 gt, .int .i64 dt] 25)) _ 1 _ _ _ At10.out
  have q2At := cell_of_row (w9.alloc (.cells #[.int .i64 ut, .int .i64 xt, .int .i64 gt, .int .i64 dt] 25)) _ 2 _ _ _ At10.out
  have q3At := cell_of_row (w9.alloc (.cells #[.int .i64 ut, .int .i64 xt, .int .i64 gt, .int .i64 dt] 25)) _ 3 _ _ _ At10.out
  simp at q0At q1At q2At q3At
  go_wp2_with fail
  clear q0At q1At q2At q3At
  have C := implUseTick_any ut xt gt dt late (w9.alloc (.cells #[.int .i64 ut, .int .i64 xt, .int .i64 gt, .int .i64 dt] 25))
  rw [HRt.out, rv_eq] at C
  refine (C).mono ?_
  rintro e w11 ⟨rfl, hb⟩
  have sz11 : (w9.alloc (.cells #[.int .i64 ut, .int .i64 xt, .int .i64 gt, .int .i64 dt] 25)).heap.size ≤ w11.heap.size := hb.size
  rw [World.size_alloc] at sz11
  have BW11 := Lib.hid (BW10.out.trans (hb.mono (by first | omega | (simp only [World.size_alloc]; omega))))
  have HC11 := Lib.hid (HC10.out.below hb (by first | omega | (simp only [World.size_alloc]; omega)))
  have Ap11 := Lib.hid ((hb.block _ (by first | omega | (simp only [World.size_alloc]; omega))).trans Ap10.out)
  have Rp11 := Lib.hid ((hb.block _ (by first | omega | (simp only [World.size_alloc]; omega))).trans Rp10.out)
  have As11 := Lib.hid ((hb.block _ (by first | omega | (simp only [World.size_alloc]; omega))).trans As10.out)
  have Rs11 := Lib.hid ((hb.block _ (by first | omega | (simp only [World.size_alloc]; omega))).trans Rs10.out)
  have At11 := Lib.hid ((hb.block _ (by first | omega | (simp only [World.size_alloc]; omega))).trans At10.out)
  clear hb BW10 HC10 Ap10 Rp10 As10 Rs10 At10
  clear C
  have hb := below_new w11 (.cells #[.int .i64 Qt, .int .i64 Ut, .int .i64 Xt, .int .i64 Gt, .int .i64 Dt, .bool Zt] 28)
  have sz12 : w11.heap.size + 1 = (w11.alloc (.cells #[.int .i64 Qt, .int .i64 Ut, .int .i64 Xt, .int .i64 Gt, .int .i64 Dt, .bool Zt] 28)).heap.size := by simp
  have BW12 := Lib.hid (BW11.out.trans (hb.mono (by omega)))
  have HC12 := Lib.hid (HC11.out.below hb (by omega))
  have Ap12 := Lib.hid ((hb.block _ (by omega)).trans Ap11.out)
  have Rp12 := Lib.hid ((hb.block _ (by omega)).trans Rp11.out)
  have As12 := Lib.hid ((hb.block _ (by omega)).trans As11.out)
  have Rs12 := Lib.hid ((hb.block _ (by omega)).trans Rs11.out)
  have At12 := Lib.hid ((hb.block _ (by omega)).trans At11.out)
  clear hb BW11 HC11 Ap11 Rp11 As11 Rs11 At11
  rw [World.size_alloc] at sz12
  have Rt12 := Lib.hid (heap_alloc_new w11 (.cells #[.int .i64 Qt, .int .i64 Ut, .int .i64 Xt, .int .i64 Gt, .int .i64 Dt, .bool Zt] 28))
  go_wp2_with fail
  refine (DrawGiveTick_any _ _ A k c b _ (by omega) HBY.out HC12.out).mono ?_
  rintro e w13 ⟨uv, xv, gv, dv, rfl, hb⟩
  have sz13 : (w11.alloc (.cells #[.int .i64 Qt, .int .i64 Ut, .int .i64 Xt, .int .i64 Gt, .int .i64 Dt, .bool Zt] 28)).heap.size ≤ w13.heap.size := hb.size
  rw [World.size_alloc] at sz13
  have BW13 := Lib.hid (BW12.out.trans (hb.mono (by first | omega | (simp only [World.size_alloc]; omega))))
  have HC13 := Lib.hid (HC12.out.below hb (by first | omega | (simp only [World.size_alloc]; omega)))
  have Ap13 := Lib.hid ((hb.block _ (by first | omega | (simp only [World.size_alloc]; omega))).trans Ap12.out)
  have Rp13 := Lib.hid ((hb.block _ (by first | omega | (simp only [World.size_alloc]; omega))).trans Rp12.out)
  have As13 := Lib.hid ((hb.block _ (by first | omega | (simp only [World.size_alloc]; omega))).trans As12.out)
  have Rs13 := Lib.hid ((hb.block _ (by first | omega | (simp only [World.size_alloc]; omega))).trans Rs12.out)
  have At13 := Lib.hid ((hb.block _ (by first | omega | (simp only [World.size_alloc]; omega))).trans At12.out)
  have Rt13 := Lib.hid ((hb.block _ (by first | omega | (simp only [World.size_alloc]; omega))).trans Rt12.out)
  clear hb BW12 HC12 Ap12 Rp12 As12 Rs12 At12 Rt12
  have hb := below_new w13 (.cells #[.int .i64 uv, .int .i64 xv, .int .i64 gv, .int .i64 dv] 25)
  have sz14 : w13.heap.size + 1 = (w13.alloc (.cells #[.int .i64 uv, .int .i64 xv, .int .i64 gv, .int .i64 dv] 25)).heap.size := by simp
  have BW14 := Lib.hid (BW13.out.trans (hb.mono (by omega)))
  have HC14 := Lib.hid (HC13.out.below hb (by omega))
  have Ap14 := Lib.hid ((hb.block _ (by omega)).trans Ap13.out)
  have Rp14 := Lib.hid ((hb.block _ (by omega)).trans Rp13.out)
  have As14 := Lib.hid ((hb.block _ (by omega)).trans As13.out)
  have Rs14 := Lib.hid ((hb.block _ (by omega)).trans Rs13.out)
  have At14 := Lib.hid ((hb.block _ (by omega)).trans At13.out)
  have Rt14 := Lib.hid ((hb.block _ (by omega)).trans Rt13.out)
  clear hb BW13 HC13 Ap13 Rp13 As13 Rs13 At13 Rt13
  rw [World.size_alloc] at sz14
  have Av14 := Lib.hid (heap_alloc_new w13 (.cells #[.int .i64 uv, .int .i64 xv, .int .i64 gv, .int .i64 dv] 25))
  obtain ⟨Qv, Uv, Xv, Gv, Dv, Zv, hr⟩ := six (give2 uv xv gv dv)
  have HRv := Lib.hid hr
  clear hr
  have q0Av := cell_of_row (w13.alloc (.cells #[.int .i64 uv, .int .i64 xv, .int .i64 gv, .int .i64 dv] 25)) _ 0 _ _ _ Av14.out
  have q1Av := cell_of_row (w13.alloc (.cells #[.int .i64 uv, .int .i64 xv, .int .i64 gv, .int .i64 dv] 25)) _ 1 _ _ _ Av14.out
  have q2Av := cell_of_row (w13.alloc (.cells #[.int .i64 uv, .int .i64 xv, .int .i64 gv, .int .i64 dv] 25)) _ 2 _ _ _ Av14.out
  have q3Av := cell_of_row (w13.alloc (.cells #[.int .i64 uv, .int .i64 xv, .int .i64 gv, .int .i64 dv] 25)) _ 3 _ _ _ Av14.out
  simp at q0Av q1Av q2Av q3Av
  go_wp2_with fail
  clear q0Av q1Av q2Av q3Av
  have C := implGiveTick_any uv xv gv dv (w13.alloc (.cells #[.int .i64 uv, .int .i64 xv, .int .i64 gv, .int .i64 dv] 25))
  rw [HRv.out, rv_eq] at C
  refine (C).mono ?_
  rintro e w15 ⟨rfl, hb⟩
  have sz15 : (w13.alloc (.cells #[.int .i64 uv, .int .i64 xv, .int .i64 gv, .int .i64 dv] 25)).heap.size ≤ w15.heap.size := hb.size
  rw [World.size_alloc] at sz15
  have BW15 := Lib.hid (BW14.out.trans (hb.mono (by first | omega | (simp only [World.size_alloc]; omega))))
  have HC15 := Lib.hid (HC14.out.below hb (by first | omega | (simp only [World.size_alloc]; omega)))
  have Ap15 := Lib.hid ((hb.block _ (by first | omega | (simp only [World.size_alloc]; omega))).trans Ap14.out)
  have Rp15 := Lib.hid ((hb.block _ (by first | omega | (simp only [World.size_alloc]; omega))).trans Rp14.out)
  have As15 := Lib.hid ((hb.block _ (by first | omega | (simp only [World.size_alloc]; omega))).trans As14.out)
  have Rs15 := Lib.hid ((hb.block _ (by first | omega | (simp only [World.size_alloc]; omega))).trans Rs14.out)
  have At15 := Lib.hid ((hb.block _ (by first | omega | (simp only [World.size_alloc]; omega))).trans At14.out)
  have Rt15 := Lib.hid ((hb.block _ (by first | omega | (simp only [World.size_alloc]; omega))).trans Rt14.out)
  have Av15 := Lib.hid ((hb.block _ (by first | omega | (simp only [World.size_alloc]; omega))).trans Av14.out)
  clear hb BW14 HC14 Ap14 Rp14 As14 Rs14 At14 Rt14 Av14
  clear C
  have hb := below_new w15 (.cells #[.int .i64 Qv, .int .i64 Uv, .int .i64 Xv, .int .i64 Gv, .int .i64 Dv, .bool Zv] 28)
  have sz16 : w15.heap.size + 1 = (w15.alloc (.cells #[.int .i64 Qv, .int .i64 Uv, .int .i64 Xv, .int .i64 Gv, .int .i64 Dv, .bool Zv] 28)).heap.size := by simp
  have BW16 := Lib.hid (BW15.out.trans (hb.mono (by omega)))
  have HC16 := Lib.hid (HC15.out.below hb (by omega))
  have Ap16 := Lib.hid ((hb.block _ (by omega)).trans Ap15.out)
  have Rp16 := Lib.hid ((hb.block _ (by omega)).trans Rp15.out)
  have As16 := Lib.hid ((hb.block _ (by omega)).trans As15.out)
  have Rs16 := Lib.hid ((hb.block _ (by omega)).trans Rs15.out)
  have At16 := Lib.hid ((hb.block _ (by omega)).trans At15.out)
  have Rt16 := Lib.hid ((hb.block _ (by omega)).trans Rt15.out)
  have Av16 := Lib.hid ((hb.block _ (by omega)).trans Av15.out)
  clear hb BW15 HC15 Ap15 Rp15 As15 Rs15 At15 Rt15 Av15
  rw [World.size_alloc] at sz16
  have Rv16 := Lib.hid (heap_alloc_new w15 (.cells #[.int .i64 Qv, .int .i64 Uv, .int .i64 Xv, .int .i64 Gv, .int .i64 Dv, .bool Zv] 28))
  obtain ⟨w0, hw0⟩ : ∃ w0, w0 = (w15.alloc (.cells #[.int .i64 Qv, .int .i64 Uv, .int .i64 Xv, .int .i64 Gv, .int .i64 Dv, .bool Zv] 28)) := ⟨_, rfl⟩
  have z0 : w0.heap.size = (w15.alloc (.cells #[.int .i64 Qv, .int .i64 Uv, .int .i64 Xv, .int .i64 Gv, .int .i64 Dv, .bool Zv] 28)).heap.size := by rw [hw0]
  rw [World.size_alloc] at z0
  rw [← hw0] at BW16 HC16 Ap16 Rp16 As16 Rs16 At16 Rt16 Av16 Rv16
  have HW0 := Lib.hid hw0
  go_upto_region 11 with (fail)
  rw [← HW0.out]
  clear hw0
  go_cut [63] from 12 (fun s wx => s = .bool false ∧ Below w0.heap.size w0 wx)
  case first => as_aux_lemma =>
    have q0Ap : w0.cell? ⟨w1.heap.size, 0, none⟩ = some (.int .i64 up) := cell_of_row w0 _ 0 _ _ _ Ap16.out
    have q1Ap : w0.cell? ⟨w1.heap.size, 1, none⟩ = some (.int .i64 xp) := cell_of_row w0 _ 1 _ _ _ Ap16.out
    have q2Ap : w0.cell? ⟨w1.heap.size, 2, none⟩ = some (.int .i64 gp) := cell_of_row w0 _ 2 _ _ _ Ap16.out
    have q3Ap : w0.cell? ⟨w1.heap.size, 3, none⟩ = some (.int .i64 dp) := cell_of_row w0 _ 3 _ _ _ Ap16.out
    have q0Rp : w0.cell? ⟨w3.heap.size, 0, none⟩ = some (.int .i64 Qp) := cell_of_row w0 _ 0 _ _ _ Rp16.out
    have q1Rp : w0.cell? ⟨w3.heap.size, 1, none⟩ = some (.int .i64 Up) := cell_of_row w0 _ 1 _ _ _ Rp16.out
    have q2Rp : w0.cell? ⟨w3.heap.size, 2, none⟩ = some (.int .i64 Xp) := cell_of_row w0 _ 2 _ _ _ Rp16.out
    have q3Rp : w0.cell? ⟨w3.heap.size, 3, none⟩ = some (.int .i64 Gp) := cell_of_row w0 _ 3 _ _ _ Rp16.out
    have q4Rp : w0.cell? ⟨w3.heap.size, 4, none⟩ = some (.int .i64 Dp) := cell_of_row w0 _ 4 _ _ _ Rp16.out
    have q5Rp : w0.cell? ⟨w3.heap.size, 5, none⟩ = some (.bool Zp) := cell_of_row w0 _ 5 _ _ _ Rp16.out
    have q0As : w0.cell? ⟨w5.heap.size, 0, none⟩ = some (.int .i64 us) := cell_of_row w0 _ 0 _ _ _ As16.out
    have q1As : w0.cell? ⟨w5.heap.size, 1, none⟩ = some (.int .i64 xs) := cell_of_row w0 _ 1 _ _ _ As16.out
    have q2As : w0.cell? ⟨w5.heap.size, 2, none⟩ = some (.int .i64 gs) := cell_of_row w0 _ 2 _ _ _ As16.out
    have q3As : w0.cell? ⟨w5.heap.size, 3, none⟩ = some (.int .i64 ds) := cell_of_row w0 _ 3 _ _ _ As16.out
    have q0Rs : w0.cell? ⟨w7.heap.size, 0, none⟩ = some (.int .i64 Qs) := cell_of_row w0 _ 0 _ _ _ Rs16.out
    have q1Rs : w0.cell? ⟨w7.heap.size, 1, none⟩ = some (.int .i64 Us) := cell_of_row w0 _ 1 _ _ _ Rs16.out
    have q2Rs : w0.cell? ⟨w7.heap.size, 2, none⟩ = some (.int .i64 Xs) := cell_of_row w0 _ 2 _ _ _ Rs16.out
    have q3Rs : w0.cell? ⟨w7.heap.size, 3, none⟩ = some (.int .i64 Gs) := cell_of_row w0 _ 3 _ _ _ Rs16.out
    have q4Rs : w0.cell? ⟨w7.heap.size, 4, none⟩ = some (.int .i64 Ds) := cell_of_row w0 _ 4 _ _ _ Rs16.out
    have q5Rs : w0.cell? ⟨w7.heap.size, 5, none⟩ = some (.bool Zs) := cell_of_row w0 _ 5 _ _ _ Rs16.out
    have q0At : w0.cell? ⟨w9.heap.size, 0, none⟩ = some (.int .i64 ut) := cell_of_row w0 _ 0 _ _ _ At16.out
    have q1At : w0.cell? ⟨w9.heap.size, 1, none⟩ = some (.int .i64 xt) := cell_of_row w0 _ 1 _ _ _ At16.out
    have q2At : w0.cell? ⟨w9.heap.size, 2, none⟩ = some (.int .i64 gt) := cell_of_row w0 _ 2 _ _ _ At16.out
    have q3At : w0.cell? ⟨w9.heap.size, 3, none⟩ = some (.int .i64 dt) := cell_of_row w0 _ 3 _ _ _ At16.out
    have q0Rt : w0.cell? ⟨w11.heap.size, 0, none⟩ = some (.int .i64 Qt) := cell_of_row w0 _ 0 _ _ _ Rt16.out
    have q1Rt : w0.cell? ⟨w11.heap.size, 1, none⟩ = some (.int .i64 Ut) := cell_of_row w0 _ 1 _ _ _ Rt16.out
    have q2Rt : w0.cell? ⟨w11.heap.size, 2, none⟩ = some (.int .i64 Xt) := cell_of_row w0 _ 2 _ _ _ Rt16.out
    have q3Rt : w0.cell? ⟨w11.heap.size, 3, none⟩ = some (.int .i64 Gt) := cell_of_row w0 _ 3 _ _ _ Rt16.out
    have q4Rt : w0.cell? ⟨w11.heap.size, 4, none⟩ = some (.int .i64 Dt) := cell_of_row w0 _ 4 _ _ _ Rt16.out
    have q5Rt : w0.cell? ⟨w11.heap.size, 5, none⟩ = some (.bool Zt) := cell_of_row w0 _ 5 _ _ _ Rt16.out
    have q0Av : w0.cell? ⟨w13.heap.size, 0, none⟩ = some (.int .i64 uv) := cell_of_row w0 _ 0 _ _ _ Av16.out
    have q1Av : w0.cell? ⟨w13.heap.size, 1, none⟩ = some (.int .i64 xv) := cell_of_row w0 _ 1 _ _ _ Av16.out
    have q2Av : w0.cell? ⟨w13.heap.size, 2, none⟩ = some (.int .i64 gv) := cell_of_row w0 _ 2 _ _ _ Av16.out
    have q3Av : w0.cell? ⟨w13.heap.size, 3, none⟩ = some (.int .i64 dv) := cell_of_row w0 _ 3 _ _ _ Av16.out
    have q0Rv : w0.cell? ⟨w15.heap.size, 0, none⟩ = some (.int .i64 Qv) := cell_of_row w0 _ 0 _ _ _ Rv16.out
    have q1Rv : w0.cell? ⟨w15.heap.size, 1, none⟩ = some (.int .i64 Uv) := cell_of_row w0 _ 1 _ _ _ Rv16.out
    have q2Rv : w0.cell? ⟨w15.heap.size, 2, none⟩ = some (.int .i64 Xv) := cell_of_row w0 _ 2 _ _ _ Rv16.out
    have q3Rv : w0.cell? ⟨w15.heap.size, 3, none⟩ = some (.int .i64 Gv) := cell_of_row w0 _ 3 _ _ _ Rv16.out
    have q4Rv : w0.cell? ⟨w15.heap.size, 4, none⟩ = some (.int .i64 Dv) := cell_of_row w0 _ 4 _ _ _ Rv16.out
    have q5Rv : w0.cell? ⟨w15.heap.size, 5, none⟩ = some (.bool Zv) := cell_of_row w0 _ 5 _ _ _ Rv16.out
    have lAp : w1.heap.size < w0.heap.size := (Array.getElem?_eq_some_iff.1 Ap16.out).1
    have lRp : w3.heap.size < w0.heap.size := (Array.getElem?_eq_some_iff.1 Rp16.out).1
    have lAs : w5.heap.size < w0.heap.size := (Array.getElem?_eq_some_iff.1 As16.out).1
    have lRs : w7.heap.size < w0.heap.size := (Array.getElem?_eq_some_iff.1 Rs16.out).1
    have lAt : w9.heap.size < w0.heap.size := (Array.getElem?_eq_some_iff.1 At16.out).1
    have lRt : w11.heap.size < w0.heap.size := (Array.getElem?_eq_some_iff.1 Rt16.out).1
    have lAv : w13.heap.size < w0.heap.size := (Array.getElem?_eq_some_iff.1 Av16.out).1
    have lRv : w15.heap.size < w0.heap.size := (Array.getElem?_eq_some_iff.1 Rv16.out).1
    have KS : Hid (∀ W, Below w0.heap.size w0 W → (W.cell? ⟨w1.heap.size, 0, none⟩ = some (.int .i64 up) ∧ W.cell? ⟨w1.heap.size, 1, none⟩ = some (.int .i64 xp) ∧ W.cell? ⟨w1.heap.size, 2, none⟩ = some (.int .i64 gp) ∧ W.cell? ⟨w1.heap.size, 3, none⟩ = some (.int .i64 dp) ∧ W.cell? ⟨w3.heap.size, 0, none⟩ = some (.int .i64 Qp) ∧ W.cell? ⟨w3.heap.size, 1, none⟩ = some (.int .i64 Up) ∧ W.cell? ⟨w3.heap.size, 2, none⟩ = some (.int .i64 Xp) ∧ W.cell? ⟨w3.heap.size, 3, none⟩ = some (.int .i64 Gp) ∧ W.cell? ⟨w3.heap.size, 4, none⟩ = some (.int .i64 Dp) ∧ W.cell? ⟨w3.heap.size, 5, none⟩ = some (.bool Zp) ∧ W.cell? ⟨w5.heap.size, 0, none⟩ = some (.int .i64 us) ∧ W.cell? ⟨w5.heap.size, 1, none⟩ = some (.int .i64 xs) ∧ W.cell? ⟨w5.heap.size, 2, none⟩ = some (.int .i64 gs) ∧ W.cell? ⟨w5.heap.size, 3, none⟩ = some (.int .i64 ds) ∧ W.cell? ⟨w7.heap.size, 0, none⟩ = some (.int .i64 Qs) ∧ W.cell? ⟨w7.heap.size, 1, none⟩ = some (.int .i64 Us) ∧ W.cell? ⟨w7.heap.size, 2, none⟩ = some (.int .i64 Xs) ∧ W.cell? ⟨w7.heap.size, 3, none⟩ = some (.int .i64 Gs) ∧ W.cell? ⟨w7.heap.size, 4, none⟩ = some (.int .i64 Ds) ∧ W.cell? ⟨w7.heap.size, 5, none⟩ = some (.bool Zs) ∧ W.cell? ⟨w9.heap.size, 0, none⟩ = some (.int .i64 ut) ∧ W.cell? ⟨w9.heap.size, 1, none⟩ = some (.int .i64 xt) ∧ W.cell? ⟨w9.heap.size, 2, none⟩ = some (.int .i64 gt) ∧ W.cell? ⟨w9.heap.size, 3, none⟩ = some (.int .i64 dt) ∧ W.cell? ⟨w11.heap.size, 0, none⟩ = some (.int .i64 Qt) ∧ W.cell? ⟨w11.heap.size, 1, none⟩ = some (.int .i64 Ut) ∧ W.cell? ⟨w11.heap.size, 2, none⟩ = some (.int .i64 Xt) ∧ W.cell? ⟨w11.heap.size, 3, none⟩ = some (.int .i64 Gt) ∧ W.cell? ⟨w11.heap.size, 4, none⟩ = some (.int .i64 Dt) ∧ W.cell? ⟨w11.heap.size, 5, none⟩ = some (.bool Zt) ∧ W.cell? ⟨w13.heap.size, 0, none⟩ = some (.int .i64 uv) ∧ W.cell? ⟨w13.heap.size, 1, none⟩ = some (.int .i64 xv) ∧ W.cell? ⟨w13.heap.size, 2, none⟩ = some (.int .i64 gv) ∧ W.cell? ⟨w13.heap.size, 3, none⟩ = some (.int .i64 dv) ∧ W.cell? ⟨w15.heap.size, 0, none⟩ = some (.int .i64 Qv) ∧ W.cell? ⟨w15.heap.size, 1, none⟩ = some (.int .i64 Uv) ∧ W.cell? ⟨w15.heap.size, 2, none⟩ = some (.int .i64 Xv) ∧ W.cell? ⟨w15.heap.size, 3, none⟩ = some (.int .i64 Gv) ∧ W.cell? ⟨w15.heap.size, 4, none⟩ = some (.int .i64 Dv) ∧ W.cell? ⟨w15.heap.size, 5, none⟩ = some (.bool Zv) ∧ Below w0.heap.size w0 W)) := fun W hB => ⟨(hB.cell (p := ⟨w1.heap.size, 0, none⟩) lAp).trans q0Ap, (hB.cell (p := ⟨w1.heap.size, 1, none⟩) lAp).trans q1Ap, (hB.cell (p := ⟨w1.heap.size, 2, none⟩) lAp).trans q2Ap, (hB.cell (p := ⟨w1.heap.size, 3, none⟩) lAp).trans q3Ap, (hB.cell (p := ⟨w3.heap.size, 0, none⟩) lRp).trans q0Rp, (hB.cell (p := ⟨w3.heap.size, 1, none⟩) lRp).trans q1Rp, (hB.cell (p := ⟨w3.heap.size, 2, none⟩) lRp).trans q2Rp, (hB.cell (p := ⟨w3.heap.size, 3, none⟩) lRp).trans q3Rp, (hB.cell (p := ⟨w3.heap.size, 4, none⟩) lRp).trans q4Rp, (hB.cell (p := ⟨w3.heap.size, 5, none⟩) lRp).trans q5Rp, (hB.cell (p := ⟨w5.heap.size, 0, none⟩) lAs).trans q0As, (hB.cell (p := ⟨w5.heap.size, 1, none⟩) lAs).trans q1As, (hB.cell (p := ⟨w5.heap.size, 2, none⟩) lAs).trans q2As, (hB.cell (p := ⟨w5.heap.size, 3, none⟩) lAs).trans q3As, (hB.cell (p := ⟨w7.heap.size, 0, none⟩) lRs).trans q0Rs, (hB.cell (p := ⟨w7.heap.size, 1, none⟩) lRs).trans q1Rs, (hB.cell (p := ⟨w7.heap.size, 2, none⟩) lRs).trans q2Rs, (hB.cell (p := ⟨w7.heap.size, 3, none⟩) lRs).trans q3Rs, (hB.cell (p := ⟨w7.heap.size, 4, none⟩) lRs).trans q4Rs, (hB.cell (p := ⟨w7.heap.size, 5, none⟩) lRs).trans q5Rs, (hB.cell (p := ⟨w9.heap.size, 0, none⟩) lAt).trans q0At, (hB.cell (p := ⟨w9.heap.size, 1, none⟩) lAt).trans q1At, (hB.cell (p := ⟨w9.heap.size, 2, none⟩) lAt).trans q2At, (hB.cell (p := ⟨w9.heap.size, 3, none⟩) lAt).trans q3At, (hB.cell (p := ⟨w11.heap.size, 0, none⟩) lRt).trans q0Rt, (hB.cell (p := ⟨w11.heap.size, 1, none⟩) lRt).trans q1Rt, (hB.cell (p := ⟨w11.heap.size, 2, none⟩) lRt).trans q2Rt, (hB.cell (p := ⟨w11.heap.size, 3, none⟩) lRt).trans q3Rt, (hB.cell (p := ⟨w11.heap.size, 4, none⟩) lRt).trans q4Rt, (hB.cell (p := ⟨w11.heap.size, 5, none⟩) lRt).trans q5Rt, (hB.cell (p := ⟨w13.heap.size, 0, none⟩) lAv).trans q0Av, (hB.cell (p := ⟨w13.heap.size, 1, none⟩) lAv).trans q1Av, (hB.cell (p := ⟨w13.heap.size, 2, none⟩) lAv).trans q2Av, (hB.cell (p := ⟨w13.heap.size, 3, none⟩) lAv).trans q3Av, (hB.cell (p := ⟨w15.heap.size, 0, none⟩) lRv).trans q0Rv, (hB.cell (p := ⟨w15.heap.size, 1, none⟩) lRv).trans q1Rv, (hB.cell (p := ⟨w15.heap.size, 2, none⟩) lRv).trans q2Rv, (hB.cell (p := ⟨w15.heap.size, 3, none⟩) lRv).trans q3Rv, (hB.cell (p := ⟨w15.heap.size, 4, none⟩) lRv).trans q4Rv, (hB.cell (p := ⟨w15.heap.size, 5, none⟩) lRv).trans q5Rv, hB⟩
    have PS : Hid (∀ W, (W.cell? ⟨w1.heap.size, 0, none⟩ = some (.int .i64 up) ∧ W.cell? ⟨w1.heap.size, 1, none⟩ = some (.int .i64 xp) ∧ W.cell? ⟨w1.heap.size, 2, none⟩ = some (.int .i64 gp) ∧ W.cell? ⟨w1.heap.size, 3, none⟩ = some (.int .i64 dp) ∧ W.cell? ⟨w3.heap.size, 0, none⟩ = some (.int .i64 Qp) ∧ W.cell? ⟨w3.heap.size, 1, none⟩ = some (.int .i64 Up) ∧ W.cell? ⟨w3.heap.size, 2, none⟩ = some (.int .i64 Xp) ∧ W.cell? ⟨w3.heap.size, 3, none⟩ = some (.int .i64 Gp) ∧ W.cell? ⟨w3.heap.size, 4, none⟩ = some (.int .i64 Dp) ∧ W.cell? ⟨w3.heap.size, 5, none⟩ = some (.bool Zp) ∧ W.cell? ⟨w5.heap.size, 0, none⟩ = some (.int .i64 us) ∧ W.cell? ⟨w5.heap.size, 1, none⟩ = some (.int .i64 xs) ∧ W.cell? ⟨w5.heap.size, 2, none⟩ = some (.int .i64 gs) ∧ W.cell? ⟨w5.heap.size, 3, none⟩ = some (.int .i64 ds) ∧ W.cell? ⟨w7.heap.size, 0, none⟩ = some (.int .i64 Qs) ∧ W.cell? ⟨w7.heap.size, 1, none⟩ = some (.int .i64 Us) ∧ W.cell? ⟨w7.heap.size, 2, none⟩ = some (.int .i64 Xs) ∧ W.cell? ⟨w7.heap.size, 3, none⟩ = some (.int .i64 Gs) ∧ W.cell? ⟨w7.heap.size, 4, none⟩ = some (.int .i64 Ds) ∧ W.cell? ⟨w7.heap.size, 5, none⟩ = some (.bool Zs) ∧ W.cell? ⟨w9.heap.size, 0, none⟩ = some (.int .i64 ut) ∧ W.cell? ⟨w9.heap.size, 1, none⟩ = some (.int .i64 xt) ∧ W.cell? ⟨w9.heap.size, 2, none⟩ = some (.int .i64 gt) ∧ W.cell? ⟨w9.heap.size, 3, none⟩ = some (.int .i64 dt) ∧ W.cell? ⟨w11.heap.size, 0, none⟩ = some (.int .i64 Qt) ∧ W.cell? ⟨w11.heap.size, 1, none⟩ = some (.int .i64 Ut) ∧ W.cell? ⟨w11.heap.size, 2, none⟩ = some (.int .i64 Xt) ∧ W.cell? ⟨w11.heap.size, 3, none⟩ = some (.int .i64 Gt) ∧ W.cell? ⟨w11.heap.size, 4, none⟩ = some (.int .i64 Dt) ∧ W.cell? ⟨w11.heap.size, 5, none⟩ = some (.bool Zt) ∧ W.cell? ⟨w13.heap.size, 0, none⟩ = some (.int .i64 uv) ∧ W.cell? ⟨w13.heap.size, 1, none⟩ = some (.int .i64 xv) ∧ W.cell? ⟨w13.heap.size, 2, none⟩ = some (.int .i64 gv) ∧ W.cell? ⟨w13.heap.size, 3, none⟩ = some (.int .i64 dv) ∧ W.cell? ⟨w15.heap.size, 0, none⟩ = some (.int .i64 Qv) ∧ W.cell? ⟨w15.heap.size, 1, none⟩ = some (.int .i64 Uv) ∧ W.cell? ⟨w15.heap.size, 2, none⟩ = some (.int .i64 Xv) ∧ W.cell? ⟨w15.heap.size, 3, none⟩ = some (.int .i64 Gv) ∧ W.cell? ⟨w15.heap.size, 4, none⟩ = some (.int .i64 Dv) ∧ W.cell? ⟨w15.heap.size, 5, none⟩ = some (.bool Zv) ∧ Below w0.heap.size w0 W) → Below w0.heap.size w0 W) := fun W h => h.2.2.2.2.2.2.2.2.2.2.2.2.2.2.2.2.2.2.2.2.2.2.2.2.2.2.2.2.2.2.2.2.2.2.2.2.2.2.2.2
    have AP : Hid (∀ W, Below w0.heap.size w0 W → Calls Try.prog 18 #[.agg #[.int .i64 up, .int .i64 xp, .int .i64 gp, .int .i64 dp]] W fun e w' => e = .returned (.agg #[.int .i64 Qp, .int .i64 Up, .int .i64 Xp, .int .i64 Gp, .int .i64 Dp, .bool Zp]) ∧ Below w0.heap.size w0 w') := fun W hB => by
      have C := specPunishAccount_any up xp gp dp W
      rw [HRp.out, rv_eq] at C
      exact C.mono fun e w' ⟨h1, h2⟩ => ⟨h1, hB.trans (h2.mono hB.size)⟩
    have AS : Hid (∀ W, Below w0.heap.size w0 W → Calls Try.prog 19 #[.agg #[.int .i64 us, .int .i64 xs, .int .i64 gs, .int .i64 ds]] W fun e w' => e = .returned (.agg #[.int .i64 Qs, .int .i64 Us, .int .i64 Xs, .int .i64 Gs, .int .i64 Ds, .bool Zs]) ∧ Below w0.heap.size w0 w') := fun W hB => by
      have C := specSkipAccount_any us xs gs ds W
      rw [HRs.out, rv_eq] at C
      exact C.mono fun e w' ⟨h1, h2⟩ => ⟨h1, hB.trans (h2.mono hB.size)⟩
    have AU : Hid (∀ W, Below w0.heap.size w0 W → Calls Try.prog 20 #[.agg #[.int .i64 ut, .int .i64 xt, .int .i64 gt, .int .i64 dt], .bool late] W fun e w' => e = .returned (.agg #[.int .i64 Qt, .int .i64 Ut, .int .i64 Xt, .int .i64 Gt, .int .i64 Dt, .bool Zt]) ∧ Below w0.heap.size w0 w') := fun W hB => by
      have C := specUseTick_any ut xt gt dt late W
      rw [HRt.out, rv_eq] at C
      exact C.mono fun e w' ⟨h1, h2⟩ => ⟨h1, hB.trans (h2.mono hB.size)⟩
    have AG : Hid (∀ W, Below w0.heap.size w0 W → Calls Try.prog 21 #[.agg #[.int .i64 uv, .int .i64 xv, .int .i64 gv, .int .i64 dv]] W fun e w' => e = .returned (.agg #[.int .i64 Qv, .int .i64 Uv, .int .i64 Xv, .int .i64 Gv, .int .i64 Dv, .bool Zv]) ∧ Below w0.heap.size w0 w') := fun W hB => by
      have C := specGiveTick_any uv xv gv dv W
      rw [HRv.out, rv_eq] at C
      exact C.mono fun e w' ⟨h1, h2⟩ => ⟨h1, hB.trans (h2.mono hB.size)⟩
    have AFimpl : Hid (∀ W, Below w0.heap.size w0 W → Calls Try.prog 22 #[.agg #[.int .i64 up, .int .i64 xp, .int .i64 gp, .int .i64 dp]] W fun e w' => e = .returned (.int .i64 (af up xp gp dp)) ∧ Below w0.heap.size w0 w') := fun W hB => (implAccountFault_any up xp gp dp W).mono fun e w' ⟨h1, h2⟩ => ⟨h1, hB.trans (h2.mono hB.size)⟩
    have AFspec : Hid (∀ W, Below w0.heap.size w0 W → Calls Try.prog 23 #[.agg #[.int .i64 up, .int .i64 xp, .int .i64 gp, .int .i64 dp]] W fun e w' => e = .returned (.int .i64 (af up xp gp dp)) ∧ Below w0.heap.size w0 w') := fun W hB => (specAccountFault_any up xp gp dp W).mono fun e w' ⟨h1, h2⟩ => ⟨h1, hB.trans (h2.mono hB.size)⟩
    have nq := run_neq_res
    go_region_held3 (fun w' => w'.cell? ⟨w1.heap.size, 0, none⟩ = some (.int .i64 up) ∧ w'.cell? ⟨w1.heap.size, 1, none⟩ = some (.int .i64 xp) ∧ w'.cell? ⟨w1.heap.size, 2, none⟩ = some (.int .i64 gp) ∧ w'.cell? ⟨w1.heap.size, 3, none⟩ = some (.int .i64 dp) ∧ w'.cell? ⟨w3.heap.size, 0, none⟩ = some (.int .i64 Qp) ∧ w'.cell? ⟨w3.heap.size, 1, none⟩ = some (.int .i64 Up) ∧ w'.cell? ⟨w3.heap.size, 2, none⟩ = some (.int .i64 Xp) ∧ w'.cell? ⟨w3.heap.size, 3, none⟩ = some (.int .i64 Gp) ∧ w'.cell? ⟨w3.heap.size, 4, none⟩ = some (.int .i64 Dp) ∧ w'.cell? ⟨w3.heap.size, 5, none⟩ = some (.bool Zp) ∧ w'.cell? ⟨w5.heap.size, 0, none⟩ = some (.int .i64 us) ∧ w'.cell? ⟨w5.heap.size, 1, none⟩ = some (.int .i64 xs) ∧ w'.cell? ⟨w5.heap.size, 2, none⟩ = some (.int .i64 gs) ∧ w'.cell? ⟨w5.heap.size, 3, none⟩ = some (.int .i64 ds) ∧ w'.cell? ⟨w7.heap.size, 0, none⟩ = some (.int .i64 Qs) ∧ w'.cell? ⟨w7.heap.size, 1, none⟩ = some (.int .i64 Us) ∧ w'.cell? ⟨w7.heap.size, 2, none⟩ = some (.int .i64 Xs) ∧ w'.cell? ⟨w7.heap.size, 3, none⟩ = some (.int .i64 Gs) ∧ w'.cell? ⟨w7.heap.size, 4, none⟩ = some (.int .i64 Ds) ∧ w'.cell? ⟨w7.heap.size, 5, none⟩ = some (.bool Zs) ∧ w'.cell? ⟨w9.heap.size, 0, none⟩ = some (.int .i64 ut) ∧ w'.cell? ⟨w9.heap.size, 1, none⟩ = some (.int .i64 xt) ∧ w'.cell? ⟨w9.heap.size, 2, none⟩ = some (.int .i64 gt) ∧ w'.cell? ⟨w9.heap.size, 3, none⟩ = some (.int .i64 dt) ∧ w'.cell? ⟨w11.heap.size, 0, none⟩ = some (.int .i64 Qt) ∧ w'.cell? ⟨w11.heap.size, 1, none⟩ = some (.int .i64 Ut) ∧ w'.cell? ⟨w11.heap.size, 2, none⟩ = some (.int .i64 Xt) ∧ w'.cell? ⟨w11.heap.size, 3, none⟩ = some (.int .i64 Gt) ∧ w'.cell? ⟨w11.heap.size, 4, none⟩ = some (.int .i64 Dt) ∧ w'.cell? ⟨w11.heap.size, 5, none⟩ = some (.bool Zt) ∧ w'.cell? ⟨w13.heap.size, 0, none⟩ = some (.int .i64 uv) ∧ w'.cell? ⟨w13.heap.size, 1, none⟩ = some (.int .i64 xv) ∧ w'.cell? ⟨w13.heap.size, 2, none⟩ = some (.int .i64 gv) ∧ w'.cell? ⟨w13.heap.size, 3, none⟩ = some (.int .i64 dv) ∧ w'.cell? ⟨w15.heap.size, 0, none⟩ = some (.int .i64 Qv) ∧ w'.cell? ⟨w15.heap.size, 1, none⟩ = some (.int .i64 Uv) ∧ w'.cell? ⟨w15.heap.size, 2, none⟩ = some (.int .i64 Xv) ∧ w'.cell? ⟨w15.heap.size, 3, none⟩ = some (.int .i64 Gv) ∧ w'.cell? ⟨w15.heap.size, 4, none⟩ = some (.int .i64 Dv) ∧ w'.cell? ⟨w15.heap.size, 5, none⟩ = some (.bool Zv) ∧ Below w0.heap.size w0 w') (first | exact KS.out _ (by assumption) | exact KS.out _ (Below.drew (by assumption)) | exact KS.out _ (Below.drew (Below.refl _ _))) (first | (go_at_call 18; refine (AP.out _ (PS.out _ (by assumption))).mono ?_; rintro e w' ⟨rfl, hb9⟩) | (go_at_call 19; refine (AS.out _ (PS.out _ (by assumption))).mono ?_; rintro e w' ⟨rfl, hb9⟩) | (go_at_call 20; refine (AU.out _ (PS.out _ (by assumption))).mono ?_; rintro e w' ⟨rfl, hb9⟩) | (go_at_call 21; refine (AG.out _ (PS.out _ (by assumption))).mono ?_; rintro e w' ⟨rfl, hb9⟩) | (go_at_call 22; refine (AFimpl.out _ (PS.out _ (by assumption))).mono ?_; rintro e w' ⟨rfl, hb9⟩) | (go_at_call 23; refine (AFspec.out _ (PS.out _ (by assumption))).mono ?_; rintro e w' ⟨rfl, hb9⟩))
    all_goals (go_wp2_with fail; go_meet; exact ⟨rfl, by assumption⟩)
  case rest =>
    obtain ⟨rfl, hbw⟩ := hcut
    go_upto_region 13 with (fail)
    go_cut [93] from 12 (fun s wx => s = .bool false ∧ Below w0.heap.size w0 wx)
    case first => as_aux_lemma =>
      rcases pun2_form up xp gp dp with h | ⟨h0, h3, h⟩ | ⟨h0, h3, h⟩
      ·
        have e := h.symm.trans HRp.out
        simp only [Prod.mk.injEq] at e
        obtain ⟨rfl, rfl, rfl, rfl, rfl, rfl⟩ := e
        clear h
        have q0Ap : wc.cell? ⟨w1.heap.size, 0, none⟩ = some (.int .i64 up) := (hbw.cell (p := ⟨w1.heap.size, 0, none⟩) (Array.getElem?_eq_some_iff.1 Ap16.out).1).trans (cell_of_row w0 _ 0 _ _ _ Ap16.out)
        have q1Ap : wc.cell? ⟨w1.heap.size, 1, none⟩ = some (.int .i64 xp) := (hbw.cell (p := ⟨w1.heap.size, 1, none⟩) (Array.getElem?_eq_some_iff.1 Ap16.out).1).trans (cell_of_row w0 _ 1 _ _ _ Ap16.out)
        have q2Ap : wc.cell? ⟨w1.heap.size, 2, none⟩ = some (.int .i64 gp) := (hbw.cell (p := ⟨w1.heap.size, 2, none⟩) (Array.getElem?_eq_some_iff.1 Ap16.out).1).trans (cell_of_row w0 _ 2 _ _ _ Ap16.out)
        have q3Ap : wc.cell? ⟨w1.heap.size, 3, none⟩ = some (.int .i64 dp) := (hbw.cell (p := ⟨w1.heap.size, 3, none⟩) (Array.getElem?_eq_some_iff.1 Ap16.out).1).trans (cell_of_row w0 _ 3 _ _ _ Ap16.out)
        have q0Rp : wc.cell? ⟨w3.heap.size, 0, none⟩ = some (.int .i64 3) := (hbw.cell (p := ⟨w3.heap.size, 0, none⟩) (Array.getElem?_eq_some_iff.1 Rp16.out).1).trans (cell_of_row w0 _ 0 _ _ _ Rp16.out)
        have q1Rp : wc.cell? ⟨w3.heap.size, 1, none⟩ = some (.int .i64 0) := (hbw.cell (p := ⟨w3.heap.size, 1, none⟩) (Array.getElem?_eq_some_iff.1 Rp16.out).1).trans (cell_of_row w0 _ 1 _ _ _ Rp16.out)
        have q2Rp : wc.cell? ⟨w3.heap.size, 2, none⟩ = some (.int .i64 0) := (hbw.cell (p := ⟨w3.heap.size, 2, none⟩) (Array.getElem?_eq_some_iff.1 Rp16.out).1).trans (cell_of_row w0 _ 2 _ _ _ Rp16.out)
        have q3Rp : wc.cell? ⟨w3.heap.size, 3, none⟩ = some (.int .i64 0) := (hbw.cell (p := ⟨w3.heap.size, 3, none⟩) (Array.getElem?_eq_some_iff.1 Rp16.out).1).trans (cell_of_row w0 _ 3 _ _ _ Rp16.out)
        have q4Rp : wc.cell? ⟨w3.heap.size, 4, none⟩ = some (.int .i64 0) := (hbw.cell (p := ⟨w3.heap.size, 4, none⟩) (Array.getElem?_eq_some_iff.1 Rp16.out).1).trans (cell_of_row w0 _ 4 _ _ _ Rp16.out)
        have q5Rp : wc.cell? ⟨w3.heap.size, 5, none⟩ = some (.bool false) := (hbw.cell (p := ⟨w3.heap.size, 5, none⟩) (Array.getElem?_eq_some_iff.1 Rp16.out).1).trans (cell_of_row w0 _ 5 _ _ _ Rp16.out)
        have lAp : w1.heap.size < w0.heap.size := (Array.getElem?_eq_some_iff.1 Ap16.out).1
        have lRp : w3.heap.size < w0.heap.size := (Array.getElem?_eq_some_iff.1 Rp16.out).1
        have KS : Hid (∀ W, Below w0.heap.size w0 W → (W.cell? ⟨w1.heap.size, 0, none⟩ = some (.int .i64 up) ∧ W.cell? ⟨w1.heap.size, 1, none⟩ = some (.int .i64 xp) ∧ W.cell? ⟨w1.heap.size, 2, none⟩ = some (.int .i64 gp) ∧ W.cell? ⟨w1.heap.size, 3, none⟩ = some (.int .i64 dp) ∧ W.cell? ⟨w3.heap.size, 0, none⟩ = some (.int .i64 3) ∧ W.cell? ⟨w3.heap.size, 1, none⟩ = some (.int .i64 0) ∧ W.cell? ⟨w3.heap.size, 2, none⟩ = some (.int .i64 0) ∧ W.cell? ⟨w3.heap.size, 3, none⟩ = some (.int .i64 0) ∧ W.cell? ⟨w3.heap.size, 4, none⟩ = some (.int .i64 0) ∧ W.cell? ⟨w3.heap.size, 5, none⟩ = some (.bool false) ∧ Below w0.heap.size w0 W)) := fun W hB => ⟨(hB.cell (p := ⟨w1.heap.size, 0, none⟩) lAp).trans (cell_of_row w0 _ 0 _ _ _ Ap16.out), (hB.cell (p := ⟨w1.heap.size, 1, none⟩) lAp).trans (cell_of_row w0 _ 1 _ _ _ Ap16.out), (hB.cell (p := ⟨w1.heap.size, 2, none⟩) lAp).trans (cell_of_row w0 _ 2 _ _ _ Ap16.out), (hB.cell (p := ⟨w1.heap.size, 3, none⟩) lAp).trans (cell_of_row w0 _ 3 _ _ _ Ap16.out), (hB.cell (p := ⟨w3.heap.size, 0, none⟩) lRp).trans (cell_of_row w0 _ 0 _ _ _ Rp16.out), (hB.cell (p := ⟨w3.heap.size, 1, none⟩) lRp).trans (cell_of_row w0 _ 1 _ _ _ Rp16.out), (hB.cell (p := ⟨w3.heap.size, 2, none⟩) lRp).trans (cell_of_row w0 _ 2 _ _ _ Rp16.out), (hB.cell (p := ⟨w3.heap.size, 3, none⟩) lRp).trans (cell_of_row w0 _ 3 _ _ _ Rp16.out), (hB.cell (p := ⟨w3.heap.size, 4, none⟩) lRp).trans (cell_of_row w0 _ 4 _ _ _ Rp16.out), (hB.cell (p := ⟨w3.heap.size, 5, none⟩) lRp).trans (cell_of_row w0 _ 5 _ _ _ Rp16.out), hB⟩
        have PS : Hid (∀ W, (W.cell? ⟨w1.heap.size, 0, none⟩ = some (.int .i64 up) ∧ W.cell? ⟨w1.heap.size, 1, none⟩ = some (.int .i64 xp) ∧ W.cell? ⟨w1.heap.size, 2, none⟩ = some (.int .i64 gp) ∧ W.cell? ⟨w1.heap.size, 3, none⟩ = some (.int .i64 dp) ∧ W.cell? ⟨w3.heap.size, 0, none⟩ = some (.int .i64 3) ∧ W.cell? ⟨w3.heap.size, 1, none⟩ = some (.int .i64 0) ∧ W.cell? ⟨w3.heap.size, 2, none⟩ = some (.int .i64 0) ∧ W.cell? ⟨w3.heap.size, 3, none⟩ = some (.int .i64 0) ∧ W.cell? ⟨w3.heap.size, 4, none⟩ = some (.int .i64 0) ∧ W.cell? ⟨w3.heap.size, 5, none⟩ = some (.bool false) ∧ Below w0.heap.size w0 W) → Below w0.heap.size w0 W) := fun W h => h.2.2.2.2.2.2.2.2.2.2
        have AF : Hid True := trivial
        have h30 : ((3 : Int) == 0) = false := by decide
        have HBW := Lib.hid hbw
        clear hbw KS PS
        go_region
        all_goals (go_wp2_with fail; go_meet; exact ⟨rfl, Below.drew HBW.out⟩)
      ·
        subst h3
        have e := h.symm.trans HRp.out
        simp only [Prod.mk.injEq] at e
        obtain ⟨rfl, rfl, rfl, rfl, rfl, rfl⟩ := e
        clear h
        have H0 := Lib.hid h0
        clear h0
        have q0Ap : wc.cell? ⟨w1.heap.size, 0, none⟩ = some (.int .i64 up) := (hbw.cell (p := ⟨w1.heap.size, 0, none⟩) (Array.getElem?_eq_some_iff.1 Ap16.out).1).trans (cell_of_row w0 _ 0 _ _ _ Ap16.out)
        have q1Ap : wc.cell? ⟨w1.heap.size, 1, none⟩ = some (.int .i64 xp) := (hbw.cell (p := ⟨w1.heap.size, 1, none⟩) (Array.getElem?_eq_some_iff.1 Ap16.out).1).trans (cell_of_row w0 _ 1 _ _ _ Ap16.out)
        have q2Ap : wc.cell? ⟨w1.heap.size, 2, none⟩ = some (.int .i64 gp) := (hbw.cell (p := ⟨w1.heap.size, 2, none⟩) (Array.getElem?_eq_some_iff.1 Ap16.out).1).trans (cell_of_row w0 _ 2 _ _ _ Ap16.out)
        have q3Ap : wc.cell? ⟨w1.heap.size, 3, none⟩ = some (.int .i64 3) := (hbw.cell (p := ⟨w1.heap.size, 3, none⟩) (Array.getElem?_eq_some_iff.1 Ap16.out).1).trans (cell_of_row w0 _ 3 _ _ _ Ap16.out)
        have q0Rp : wc.cell? ⟨w3.heap.size, 0, none⟩ = some (.int .i64 0) := (hbw.cell (p := ⟨w3.heap.size, 0, none⟩) (Array.getElem?_eq_some_iff.1 Rp16.out).1).trans (cell_of_row w0 _ 0 _ _ _ Rp16.out)
        have q1Rp : wc.cell? ⟨w3.heap.size, 1, none⟩ = some (.int .i64 up) := (hbw.cell (p := ⟨w3.heap.size, 1, none⟩) (Array.getElem?_eq_some_iff.1 Rp16.out).1).trans (cell_of_row w0 _ 1 _ _ _ Rp16.out)
        have q2Rp : wc.cell? ⟨w3.heap.size, 2, none⟩ = some (.int .i64 xp) := (hbw.cell (p := ⟨w3.heap.size, 2, none⟩) (Array.getElem?_eq_some_iff.1 Rp16.out).1).trans (cell_of_row w0 _ 2 _ _ _ Rp16.out)
        have q3Rp : wc.cell? ⟨w3.heap.size, 3, none⟩ = some (.int .i64 gp) := (hbw.cell (p := ⟨w3.heap.size, 3, none⟩) (Array.getElem?_eq_some_iff.1 Rp16.out).1).trans (cell_of_row w0 _ 3 _ _ _ Rp16.out)
        have q4Rp : wc.cell? ⟨w3.heap.size, 4, none⟩ = some (.int .i64 3) := (hbw.cell (p := ⟨w3.heap.size, 4, none⟩) (Array.getElem?_eq_some_iff.1 Rp16.out).1).trans (cell_of_row w0 _ 4 _ _ _ Rp16.out)
        have q5Rp : wc.cell? ⟨w3.heap.size, 5, none⟩ = some (.bool true) := (hbw.cell (p := ⟨w3.heap.size, 5, none⟩) (Array.getElem?_eq_some_iff.1 Rp16.out).1).trans (cell_of_row w0 _ 5 _ _ _ Rp16.out)
        have lAp : w1.heap.size < w0.heap.size := (Array.getElem?_eq_some_iff.1 Ap16.out).1
        have lRp : w3.heap.size < w0.heap.size := (Array.getElem?_eq_some_iff.1 Rp16.out).1
        have KS : Hid (∀ W, Below w0.heap.size w0 W → (W.cell? ⟨w1.heap.size, 0, none⟩ = some (.int .i64 up) ∧ W.cell? ⟨w1.heap.size, 1, none⟩ = some (.int .i64 xp) ∧ W.cell? ⟨w1.heap.size, 2, none⟩ = some (.int .i64 gp) ∧ W.cell? ⟨w1.heap.size, 3, none⟩ = some (.int .i64 3) ∧ W.cell? ⟨w3.heap.size, 0, none⟩ = some (.int .i64 0) ∧ W.cell? ⟨w3.heap.size, 1, none⟩ = some (.int .i64 up) ∧ W.cell? ⟨w3.heap.size, 2, none⟩ = some (.int .i64 xp) ∧ W.cell? ⟨w3.heap.size, 3, none⟩ = some (.int .i64 gp) ∧ W.cell? ⟨w3.heap.size, 4, none⟩ = some (.int .i64 3) ∧ W.cell? ⟨w3.heap.size, 5, none⟩ = some (.bool true) ∧ Below w0.heap.size w0 W)) := fun W hB => ⟨(hB.cell (p := ⟨w1.heap.size, 0, none⟩) lAp).trans (cell_of_row w0 _ 0 _ _ _ Ap16.out), (hB.cell (p := ⟨w1.heap.size, 1, none⟩) lAp).trans (cell_of_row w0 _ 1 _ _ _ Ap16.out), (hB.cell (p := ⟨w1.heap.size, 2, none⟩) lAp).trans (cell_of_row w0 _ 2 _ _ _ Ap16.out), (hB.cell (p := ⟨w1.heap.size, 3, none⟩) lAp).trans (cell_of_row w0 _ 3 _ _ _ Ap16.out), (hB.cell (p := ⟨w3.heap.size, 0, none⟩) lRp).trans (cell_of_row w0 _ 0 _ _ _ Rp16.out), (hB.cell (p := ⟨w3.heap.size, 1, none⟩) lRp).trans (cell_of_row w0 _ 1 _ _ _ Rp16.out), (hB.cell (p := ⟨w3.heap.size, 2, none⟩) lRp).trans (cell_of_row w0 _ 2 _ _ _ Rp16.out), (hB.cell (p := ⟨w3.heap.size, 3, none⟩) lRp).trans (cell_of_row w0 _ 3 _ _ _ Rp16.out), (hB.cell (p := ⟨w3.heap.size, 4, none⟩) lRp).trans (cell_of_row w0 _ 4 _ _ _ Rp16.out), (hB.cell (p := ⟨w3.heap.size, 5, none⟩) lRp).trans (cell_of_row w0 _ 5 _ _ _ Rp16.out), hB⟩
        have PS : Hid (∀ W, (W.cell? ⟨w1.heap.size, 0, none⟩ = some (.int .i64 up) ∧ W.cell? ⟨w1.heap.size, 1, none⟩ = some (.int .i64 xp) ∧ W.cell? ⟨w1.heap.size, 2, none⟩ = some (.int .i64 gp) ∧ W.cell? ⟨w1.heap.size, 3, none⟩ = some (.int .i64 3) ∧ W.cell? ⟨w3.heap.size, 0, none⟩ = some (.int .i64 0) ∧ W.cell? ⟨w3.heap.size, 1, none⟩ = some (.int .i64 up) ∧ W.cell? ⟨w3.heap.size, 2, none⟩ = some (.int .i64 xp) ∧ W.cell? ⟨w3.heap.size, 3, none⟩ = some (.int .i64 gp) ∧ W.cell? ⟨w3.heap.size, 4, none⟩ = some (.int .i64 3) ∧ W.cell? ⟨w3.heap.size, 5, none⟩ = some (.bool true) ∧ Below w0.heap.size w0 W) → Below w0.heap.size w0 W) := fun W h => h.2.2.2.2.2.2.2.2.2.2
        have AF : Hid (∀ W, Below w0.heap.size w0 W → Calls Try.prog 22 #[.agg #[.int .i64 up, .int .i64 xp, .int .i64 gp, .int .i64 3]] W fun e w' => e = .returned (.int .i64 0) ∧ Below w0.heap.size w0 w') := fun W hB => by
          have C := implAccountFault_any up xp gp 3 W
          rw [H0.out] at C
          exact C.mono fun e w' ⟨h1, h2⟩ => ⟨h1, hB.trans (h2.mono hB.size)⟩
        have HBW := Lib.hid hbw
        clear hbw PS
        first | go_region_with (go_at_call 22; refine (AF.out _ (Below.drew HBW.out)).mono ?_; rintro e w' ⟨rfl, hb9⟩; obtain ⟨q0, q1, q2, q3, q4, q5, q6, q7, q8, q9, hb8⟩ := KS.out _ hb9; have HB9 := Lib.hid hb9; clear hb8 hb9) | fail
        all_goals (go_wp2_with fail; go_meet; exact ⟨rfl, HB9.out⟩)
      ·
        have e := h.symm.trans HRp.out
        simp only [Prod.mk.injEq] at e
        obtain ⟨rfl, rfl, rfl, rfl, rfl, rfl⟩ := e
        clear h
        obtain ⟨hb1, hb2⟩ := skip2_back h0 h3
        have H1 := Lib.hid hb1
        have H2 := Lib.hid hb2
        have hd3 : (dp == 3) = false := by simp; omega
        clear h0 h3 hb1 hb2
        have q0Ap : wc.cell? ⟨w1.heap.size, 0, none⟩ = some (.int .i64 up) := (hbw.cell (p := ⟨w1.heap.size, 0, none⟩) (Array.getElem?_eq_some_iff.1 Ap16.out).1).trans (cell_of_row w0 _ 0 _ _ _ Ap16.out)
        have q1Ap : wc.cell? ⟨w1.heap.size, 1, none⟩ = some (.int .i64 xp) := (hbw.cell (p := ⟨w1.heap.size, 1, none⟩) (Array.getElem?_eq_some_iff.1 Ap16.out).1).trans (cell_of_row w0 _ 1 _ _ _ Ap16.out)
        have q2Ap : wc.cell? ⟨w1.heap.size, 2, none⟩ = some (.int .i64 gp) := (hbw.cell (p := ⟨w1.heap.size, 2, none⟩) (Array.getElem?_eq_some_iff.1 Ap16.out).1).trans (cell_of_row w0 _ 2 _ _ _ Ap16.out)
        have q3Ap : wc.cell? ⟨w1.heap.size, 3, none⟩ = some (.int .i64 dp) := (hbw.cell (p := ⟨w1.heap.size, 3, none⟩) (Array.getElem?_eq_some_iff.1 Ap16.out).1).trans (cell_of_row w0 _ 3 _ _ _ Ap16.out)
        have q0Rp : wc.cell? ⟨w3.heap.size, 0, none⟩ = some (.int .i64 0) := (hbw.cell (p := ⟨w3.heap.size, 0, none⟩) (Array.getElem?_eq_some_iff.1 Rp16.out).1).trans (cell_of_row w0 _ 0 _ _ _ Rp16.out)
        have q1Rp : wc.cell? ⟨w3.heap.size, 1, none⟩ = some (.int .i64 up) := (hbw.cell (p := ⟨w3.heap.size, 1, none⟩) (Array.getElem?_eq_some_iff.1 Rp16.out).1).trans (cell_of_row w0 _ 1 _ _ _ Rp16.out)
        have q2Rp : wc.cell? ⟨w3.heap.size, 2, none⟩ = some (.int .i64 xp) := (hbw.cell (p := ⟨w3.heap.size, 2, none⟩) (Array.getElem?_eq_some_iff.1 Rp16.out).1).trans (cell_of_row w0 _ 2 _ _ _ Rp16.out)
        have q3Rp : wc.cell? ⟨w3.heap.size, 3, none⟩ = some (.int .i64 gp) := (hbw.cell (p := ⟨w3.heap.size, 3, none⟩) (Array.getElem?_eq_some_iff.1 Rp16.out).1).trans (cell_of_row w0 _ 3 _ _ _ Rp16.out)
        have q4Rp : wc.cell? ⟨w3.heap.size, 4, none⟩ = some (.int .i64 (dp + 1)) := (hbw.cell (p := ⟨w3.heap.size, 4, none⟩) (Array.getElem?_eq_some_iff.1 Rp16.out).1).trans (cell_of_row w0 _ 4 _ _ _ Rp16.out)
        have q5Rp : wc.cell? ⟨w3.heap.size, 5, none⟩ = some (.bool false) := (hbw.cell (p := ⟨w3.heap.size, 5, none⟩) (Array.getElem?_eq_some_iff.1 Rp16.out).1).trans (cell_of_row w0 _ 5 _ _ _ Rp16.out)
        have lAp : w1.heap.size < w0.heap.size := (Array.getElem?_eq_some_iff.1 Ap16.out).1
        have lRp : w3.heap.size < w0.heap.size := (Array.getElem?_eq_some_iff.1 Rp16.out).1
        have KS : Hid (∀ W, Below w0.heap.size w0 W → (W.cell? ⟨w1.heap.size, 0, none⟩ = some (.int .i64 up) ∧ W.cell? ⟨w1.heap.size, 1, none⟩ = some (.int .i64 xp) ∧ W.cell? ⟨w1.heap.size, 2, none⟩ = some (.int .i64 gp) ∧ W.cell? ⟨w1.heap.size, 3, none⟩ = some (.int .i64 dp) ∧ W.cell? ⟨w3.heap.size, 0, none⟩ = some (.int .i64 0) ∧ W.cell? ⟨w3.heap.size, 1, none⟩ = some (.int .i64 up) ∧ W.cell? ⟨w3.heap.size, 2, none⟩ = some (.int .i64 xp) ∧ W.cell? ⟨w3.heap.size, 3, none⟩ = some (.int .i64 gp) ∧ W.cell? ⟨w3.heap.size, 4, none⟩ = some (.int .i64 (dp + 1)) ∧ W.cell? ⟨w3.heap.size, 5, none⟩ = some (.bool false) ∧ Below w0.heap.size w0 W)) := fun W hB => ⟨(hB.cell (p := ⟨w1.heap.size, 0, none⟩) lAp).trans (cell_of_row w0 _ 0 _ _ _ Ap16.out), (hB.cell (p := ⟨w1.heap.size, 1, none⟩) lAp).trans (cell_of_row w0 _ 1 _ _ _ Ap16.out), (hB.cell (p := ⟨w1.heap.size, 2, none⟩) lAp).trans (cell_of_row w0 _ 2 _ _ _ Ap16.out), (hB.cell (p := ⟨w1.heap.size, 3, none⟩) lAp).trans (cell_of_row w0 _ 3 _ _ _ Ap16.out), (hB.cell (p := ⟨w3.heap.size, 0, none⟩) lRp).trans (cell_of_row w0 _ 0 _ _ _ Rp16.out), (hB.cell (p := ⟨w3.heap.size, 1, none⟩) lRp).trans (cell_of_row w0 _ 1 _ _ _ Rp16.out), (hB.cell (p := ⟨w3.heap.size, 2, none⟩) lRp).trans (cell_of_row w0 _ 2 _ _ _ Rp16.out), (hB.cell (p := ⟨w3.heap.size, 3, none⟩) lRp).trans (cell_of_row w0 _ 3 _ _ _ Rp16.out), (hB.cell (p := ⟨w3.heap.size, 4, none⟩) lRp).trans (cell_of_row w0 _ 4 _ _ _ Rp16.out), (hB.cell (p := ⟨w3.heap.size, 5, none⟩) lRp).trans (cell_of_row w0 _ 5 _ _ _ Rp16.out), hB⟩
        have PS : Hid (∀ W, (W.cell? ⟨w1.heap.size, 0, none⟩ = some (.int .i64 up) ∧ W.cell? ⟨w1.heap.size, 1, none⟩ = some (.int .i64 xp) ∧ W.cell? ⟨w1.heap.size, 2, none⟩ = some (.int .i64 gp) ∧ W.cell? ⟨w1.heap.size, 3, none⟩ = some (.int .i64 dp) ∧ W.cell? ⟨w3.heap.size, 0, none⟩ = some (.int .i64 0) ∧ W.cell? ⟨w3.heap.size, 1, none⟩ = some (.int .i64 up) ∧ W.cell? ⟨w3.heap.size, 2, none⟩ = some (.int .i64 xp) ∧ W.cell? ⟨w3.heap.size, 3, none⟩ = some (.int .i64 gp) ∧ W.cell? ⟨w3.heap.size, 4, none⟩ = some (.int .i64 (dp + 1)) ∧ W.cell? ⟨w3.heap.size, 5, none⟩ = some (.bool false) ∧ Below w0.heap.size w0 W) → Below w0.heap.size w0 W) := fun W h => h.2.2.2.2.2.2.2.2.2.2
        have AF : Hid (∀ W, Below w0.heap.size w0 W → Calls Try.prog 22 #[.agg #[.int .i64 up, .int .i64 xp, .int .i64 gp, .int .i64 (dp + 1)]] W fun e w' => e = .returned (.int .i64 0) ∧ Below w0.heap.size w0 w') := fun W hB => by
          have C := implAccountFault_any up xp gp (dp + 1) W
          rw [H1.out] at C
          exact C.mono fun e w' ⟨h1, h2⟩ => ⟨h1, hB.trans (h2.mono hB.size)⟩
        have AK : Hid (∀ W, Below w0.heap.size w0 W → Calls Try.prog 13 #[.agg #[.int .i64 up, .int .i64 xp, .int .i64 gp, .int .i64 (dp + 1)]] W fun e w' => e = .returned (.agg #[.int .i64 0, .int .i64 up, .int .i64 xp, .int .i64 gp, .int .i64 dp, .bool false]) ∧ Below w0.heap.size w0 w') := fun W hB => by
          have C := implSkipAccount_any up xp gp (dp + 1) W
          rw [H2.out, rv_eq] at C
          exact C.mono fun e w' ⟨h1, h2⟩ => ⟨h1, hB.trans (h2.mono hB.size)⟩
        have fl1 := run_fl1
        have na := run_neq_acc
        go_region_held3 (fun w' => w'.cell? ⟨w1.heap.size, 0, none⟩ = some (.int .i64 up) ∧ w'.cell? ⟨w1.heap.size, 1, none⟩ = some (.int .i64 xp) ∧ w'.cell? ⟨w1.heap.size, 2, none⟩ = some (.int .i64 gp) ∧ w'.cell? ⟨w1.heap.size, 3, none⟩ = some (.int .i64 dp) ∧ w'.cell? ⟨w3.heap.size, 0, none⟩ = some (.int .i64 0) ∧ w'.cell? ⟨w3.heap.size, 1, none⟩ = some (.int .i64 up) ∧ w'.cell? ⟨w3.heap.size, 2, none⟩ = some (.int .i64 xp) ∧ w'.cell? ⟨w3.heap.size, 3, none⟩ = some (.int .i64 gp) ∧ w'.cell? ⟨w3.heap.size, 4, none⟩ = some (.int .i64 (dp + 1)) ∧ w'.cell? ⟨w3.heap.size, 5, none⟩ = some (.bool false) ∧ Below w0.heap.size w0 w') (first | exact KS.out _ (by assumption) | exact KS.out _ (Below.drew (by assumption))) (first | (go_at_call 22; refine (AF.out _ (PS.out _ (by assumption))).mono ?_; rintro e w' ⟨rfl, hb9⟩) | (go_at_call 13; refine (AK.out _ (PS.out _ (by assumption))).mono ?_; rintro e w' ⟨rfl, hb9⟩))
        all_goals (go_wp2_with fail; go_meet; exact ⟨rfl, by assumption⟩)
    case rest =>
      obtain ⟨rfl, hbw⟩ := hcut
      go_upto_region 15 with (fail)
      go_cut [104] from 12 (fun s wx => s = .bool false ∧ Below w0.heap.size w0 wx)
      case first => as_aux_lemma =>
        rcases skip2_form us xs gs ds with ⟨qq, hq, h⟩ | ⟨h0, h1, h3, h⟩
        ·
          have e := h.symm.trans HRs.out
          simp only [Prod.mk.injEq] at e
          obtain ⟨rfl, rfl, rfl, rfl, rfl, rfl⟩ := e
          clear h
          have hqb : (qq == 0) = false := by simp [hq]
          clear hq
          have q0As : wc.cell? ⟨w5.heap.size, 0, none⟩ = some (.int .i64 us) := (hbw.cell (p := ⟨w5.heap.size, 0, none⟩) (Array.getElem?_eq_some_iff.1 As16.out).1).trans (cell_of_row w0 _ 0 _ _ _ As16.out)
          have q1As : wc.cell? ⟨w5.heap.size, 1, none⟩ = some (.int .i64 xs) := (hbw.cell (p := ⟨w5.heap.size, 1, none⟩) (Array.getElem?_eq_some_iff.1 As16.out).1).trans (cell_of_row w0 _ 1 _ _ _ As16.out)
          have q2As : wc.cell? ⟨w5.heap.size, 2, none⟩ = some (.int .i64 gs) := (hbw.cell (p := ⟨w5.heap.size, 2, none⟩) (Array.getElem?_eq_some_iff.1 As16.out).1).trans (cell_of_row w0 _ 2 _ _ _ As16.out)
          have q3As : wc.cell? ⟨w5.heap.size, 3, none⟩ = some (.int .i64 ds) := (hbw.cell (p := ⟨w5.heap.size, 3, none⟩) (Array.getElem?_eq_some_iff.1 As16.out).1).trans (cell_of_row w0 _ 3 _ _ _ As16.out)
          have q0Rs : wc.cell? ⟨w7.heap.size, 0, none⟩ = some (.int .i64 qq) := (hbw.cell (p := ⟨w7.heap.size, 0, none⟩) (Array.getElem?_eq_some_iff.1 Rs16.out).1).trans (cell_of_row w0 _ 0 _ _ _ Rs16.out)
          have q1Rs : wc.cell? ⟨w7.heap.size, 1, none⟩ = some (.int .i64 0) := (hbw.cell (p := ⟨w7.heap.size, 1, none⟩) (Array.getElem?_eq_some_iff.1 Rs16.out).1).trans (cell_of_row w0 _ 1 _ _ _ Rs16.out)
          have q2Rs : wc.cell? ⟨w7.heap.size, 2, none⟩ = some (.int .i64 0) := (hbw.cell (p := ⟨w7.heap.size, 2, none⟩) (Array.getElem?_eq_some_iff.1 Rs16.out).1).trans (cell_of_row w0 _ 2 _ _ _ Rs16.out)
          have q3Rs : wc.cell? ⟨w7.heap.size, 3, none⟩ = some (.int .i64 0) := (hbw.cell (p := ⟨w7.heap.size, 3, none⟩) (Array.getElem?_eq_some_iff.1 Rs16.out).1).trans (cell_of_row w0 _ 3 _ _ _ Rs16.out)
          have q4Rs : wc.cell? ⟨w7.heap.size, 4, none⟩ = some (.int .i64 0) := (hbw.cell (p := ⟨w7.heap.size, 4, none⟩) (Array.getElem?_eq_some_iff.1 Rs16.out).1).trans (cell_of_row w0 _ 4 _ _ _ Rs16.out)
          have q5Rs : wc.cell? ⟨w7.heap.size, 5, none⟩ = some (.bool false) := (hbw.cell (p := ⟨w7.heap.size, 5, none⟩) (Array.getElem?_eq_some_iff.1 Rs16.out).1).trans (cell_of_row w0 _ 5 _ _ _ Rs16.out)
          have lAs : w5.heap.size < w0.heap.size := (Array.getElem?_eq_some_iff.1 As16.out).1
          have lRs : w7.heap.size < w0.heap.size := (Array.getElem?_eq_some_iff.1 Rs16.out).1
          have KS : Hid (∀ W, Below w0.heap.size w0 W → (W.cell? ⟨w5.heap.size, 0, none⟩ = some (.int .i64 us) ∧ W.cell? ⟨w5.heap.size, 1, none⟩ = some (.int .i64 xs) ∧ W.cell? ⟨w5.heap.size, 2, none⟩ = some (.int .i64 gs) ∧ W.cell? ⟨w5.heap.size, 3, none⟩ = some (.int .i64 ds) ∧ W.cell? ⟨w7.heap.size, 0, none⟩ = some (.int .i64 qq) ∧ W.cell? ⟨w7.heap.size, 1, none⟩ = some (.int .i64 0) ∧ W.cell? ⟨w7.heap.size, 2, none⟩ = some (.int .i64 0) ∧ W.cell? ⟨w7.heap.size, 3, none⟩ = some (.int .i64 0) ∧ W.cell? ⟨w7.heap.size, 4, none⟩ = some (.int .i64 0) ∧ W.cell? ⟨w7.heap.size, 5, none⟩ = some (.bool false) ∧ Below w0.heap.size w0 W)) := fun W hB => ⟨(hB.cell (p := ⟨w5.heap.size, 0, none⟩) lAs).trans (cell_of_row w0 _ 0 _ _ _ As16.out), (hB.cell (p := ⟨w5.heap.size, 1, none⟩) lAs).trans (cell_of_row w0 _ 1 _ _ _ As16.out), (hB.cell (p := ⟨w5.heap.size, 2, none⟩) lAs).trans (cell_of_row w0 _ 2 _ _ _ As16.out), (hB.cell (p := ⟨w5.heap.size, 3, none⟩) lAs).trans (cell_of_row w0 _ 3 _ _ _ As16.out), (hB.cell (p := ⟨w7.heap.size, 0, none⟩) lRs).trans (cell_of_row w0 _ 0 _ _ _ Rs16.out), (hB.cell (p := ⟨w7.heap.size, 1, none⟩) lRs).trans (cell_of_row w0 _ 1 _ _ _ Rs16.out), (hB.cell (p := ⟨w7.heap.size, 2, none⟩) lRs).trans (cell_of_row w0 _ 2 _ _ _ Rs16.out), (hB.cell (p := ⟨w7.heap.size, 3, none⟩) lRs).trans (cell_of_row w0 _ 3 _ _ _ Rs16.out), (hB.cell (p := ⟨w7.heap.size, 4, none⟩) lRs).trans (cell_of_row w0 _ 4 _ _ _ Rs16.out), (hB.cell (p := ⟨w7.heap.size, 5, none⟩) lRs).trans (cell_of_row w0 _ 5 _ _ _ Rs16.out), hB⟩
          have PS : Hid (∀ W, (W.cell? ⟨w5.heap.size, 0, none⟩ = some (.int .i64 us) ∧ W.cell? ⟨w5.heap.size, 1, none⟩ = some (.int .i64 xs) ∧ W.cell? ⟨w5.heap.size, 2, none⟩ = some (.int .i64 gs) ∧ W.cell? ⟨w5.heap.size, 3, none⟩ = some (.int .i64 ds) ∧ W.cell? ⟨w7.heap.size, 0, none⟩ = some (.int .i64 qq) ∧ W.cell? ⟨w7.heap.size, 1, none⟩ = some (.int .i64 0) ∧ W.cell? ⟨w7.heap.size, 2, none⟩ = some (.int .i64 0) ∧ W.cell? ⟨w7.heap.size, 3, none⟩ = some (.int .i64 0) ∧ W.cell? ⟨w7.heap.size, 4, none⟩ = some (.int .i64 0) ∧ W.cell? ⟨w7.heap.size, 5, none⟩ = some (.bool false) ∧ Below w0.heap.size w0 W) → Below w0.heap.size w0 W) := fun W h => h.2.2.2.2.2.2.2.2.2.2
          have HBW := Lib.hid hbw
          clear hbw KS PS
          go_region
          all_goals (go_wp2_with fail; go_meet; exact ⟨rfl, Below.drew HBW.out⟩)
        ·
          have e := h.symm.trans HRs.out
          simp only [Prod.mk.injEq] at e
          obtain ⟨rfl, rfl, rfl, rfl, rfl, rfl⟩ := e
          clear h
          have H2 := Lib.hid (pun2_back h0 h1 h3)
          clear h0 h1 h3
          have q0As : wc.cell? ⟨w5.heap.size, 0, none⟩ = some (.int .i64 us) := (hbw.cell (p := ⟨w5.heap.size, 0, none⟩) (Array.getElem?_eq_some_iff.1 As16.out).1).trans (cell_of_row w0 _ 0 _ _ _ As16.out)
          have q1As : wc.cell? ⟨w5.heap.size, 1, none⟩ = some (.int .i64 xs) := (hbw.cell (p := ⟨w5.heap.size, 1, none⟩) (Array.getElem?_eq_some_iff.1 As16.out).1).trans (cell_of_row w0 _ 1 _ _ _ As16.out)
          have q2As : wc.cell? ⟨w5.heap.size, 2, none⟩ = some (.int .i64 gs) := (hbw.cell (p := ⟨w5.heap.size, 2, none⟩) (Array.getElem?_eq_some_iff.1 As16.out).1).trans (cell_of_row w0 _ 2 _ _ _ As16.out)
          have q3As : wc.cell? ⟨w5.heap.size, 3, none⟩ = some (.int .i64 ds) := (hbw.cell (p := ⟨w5.heap.size, 3, none⟩) (Array.getElem?_eq_some_iff.1 As16.out).1).trans (cell_of_row w0 _ 3 _ _ _ As16.out)
          have q0Rs : wc.cell? ⟨w7.heap.size, 0, none⟩ = some (.int .i64 0) := (hbw.cell (p := ⟨w7.heap.size, 0, none⟩) (Array.getElem?_eq_some_iff.1 Rs16.out).1).trans (cell_of_row w0 _ 0 _ _ _ Rs16.out)
          have q1Rs : wc.cell? ⟨w7.heap.size, 1, none⟩ = some (.int .i64 us) := (hbw.cell (p := ⟨w7.heap.size, 1, none⟩) (Array.getElem?_eq_some_iff.1 Rs16.out).1).trans (cell_of_row w0 _ 1 _ _ _ Rs16.out)
          have q2Rs : wc.cell? ⟨w7.heap.size, 2, none⟩ = some (.int .i64 xs) := (hbw.cell (p := ⟨w7.heap.size, 2, none⟩) (Array.getElem?_eq_some_iff.1 Rs16.out).1).trans (cell_of_row w0 _ 2 _ _ _ Rs16.out)
          have q3Rs : wc.cell? ⟨w7.heap.size, 3, none⟩ = some (.int .i64 gs) := (hbw.cell (p := ⟨w7.heap.size, 3, none⟩) (Array.getElem?_eq_some_iff.1 Rs16.out).1).trans (cell_of_row w0 _ 3 _ _ _ Rs16.out)
          have q4Rs : wc.cell? ⟨w7.heap.size, 4, none⟩ = some (.int .i64 (ds - 1)) := (hbw.cell (p := ⟨w7.heap.size, 4, none⟩) (Array.getElem?_eq_some_iff.1 Rs16.out).1).trans (cell_of_row w0 _ 4 _ _ _ Rs16.out)
          have q5Rs : wc.cell? ⟨w7.heap.size, 5, none⟩ = some (.bool false) := (hbw.cell (p := ⟨w7.heap.size, 5, none⟩) (Array.getElem?_eq_some_iff.1 Rs16.out).1).trans (cell_of_row w0 _ 5 _ _ _ Rs16.out)
          have lAs : w5.heap.size < w0.heap.size := (Array.getElem?_eq_some_iff.1 As16.out).1
          have lRs : w7.heap.size < w0.heap.size := (Array.getElem?_eq_some_iff.1 Rs16.out).1
          have KS : Hid (∀ W, Below w0.heap.size w0 W → (W.cell? ⟨w5.heap.size, 0, none⟩ = some (.int .i64 us) ∧ W.cell? ⟨w5.heap.size, 1, none⟩ = some (.int .i64 xs) ∧ W.cell? ⟨w5.heap.size, 2, none⟩ = some (.int .i64 gs) ∧ W.cell? ⟨w5.heap.size, 3, none⟩ = some (.int .i64 ds) ∧ W.cell? ⟨w7.heap.size, 0, none⟩ = some (.int .i64 0) ∧ W.cell? ⟨w7.heap.size, 1, none⟩ = some (.int .i64 us) ∧ W.cell? ⟨w7.heap.size, 2, none⟩ = some (.int .i64 xs) ∧ W.cell? ⟨w7.heap.size, 3, none⟩ = some (.int .i64 gs) ∧ W.cell? ⟨w7.heap.size, 4, none⟩ = some (.int .i64 (ds - 1)) ∧ W.cell? ⟨w7.heap.size, 5, none⟩ = some (.bool false) ∧ Below w0.heap.size w0 W)) := fun W hB => ⟨(hB.cell (p := ⟨w5.heap.size, 0, none⟩) lAs).trans (cell_of_row w0 _ 0 _ _ _ As16.out), (hB.cell (p := ⟨w5.heap.size, 1, none⟩) lAs).trans (cell_of_row w0 _ 1 _ _ _ As16.out), (hB.cell (p := ⟨w5.heap.size, 2, none⟩) lAs).trans (cell_of_row w0 _ 2 _ _ _ As16.out), (hB.cell (p := ⟨w5.heap.size, 3, none⟩) lAs).trans (cell_of_row w0 _ 3 _ _ _ As16.out), (hB.cell (p := ⟨w7.heap.size, 0, none⟩) lRs).trans (cell_of_row w0 _ 0 _ _ _ Rs16.out), (hB.cell (p := ⟨w7.heap.size, 1, none⟩) lRs).trans (cell_of_row w0 _ 1 _ _ _ Rs16.out), (hB.cell (p := ⟨w7.heap.size, 2, none⟩) lRs).trans (cell_of_row w0 _ 2 _ _ _ Rs16.out), (hB.cell (p := ⟨w7.heap.size, 3, none⟩) lRs).trans (cell_of_row w0 _ 3 _ _ _ Rs16.out), (hB.cell (p := ⟨w7.heap.size, 4, none⟩) lRs).trans (cell_of_row w0 _ 4 _ _ _ Rs16.out), (hB.cell (p := ⟨w7.heap.size, 5, none⟩) lRs).trans (cell_of_row w0 _ 5 _ _ _ Rs16.out), hB⟩
          have PS : Hid (∀ W, (W.cell? ⟨w5.heap.size, 0, none⟩ = some (.int .i64 us) ∧ W.cell? ⟨w5.heap.size, 1, none⟩ = some (.int .i64 xs) ∧ W.cell? ⟨w5.heap.size, 2, none⟩ = some (.int .i64 gs) ∧ W.cell? ⟨w5.heap.size, 3, none⟩ = some (.int .i64 ds) ∧ W.cell? ⟨w7.heap.size, 0, none⟩ = some (.int .i64 0) ∧ W.cell? ⟨w7.heap.size, 1, none⟩ = some (.int .i64 us) ∧ W.cell? ⟨w7.heap.size, 2, none⟩ = some (.int .i64 xs) ∧ W.cell? ⟨w7.heap.size, 3, none⟩ = some (.int .i64 gs) ∧ W.cell? ⟨w7.heap.size, 4, none⟩ = some (.int .i64 (ds - 1)) ∧ W.cell? ⟨w7.heap.size, 5, none⟩ = some (.bool false) ∧ Below w0.heap.size w0 W) → Below w0.heap.size w0 W) := fun W h => h.2.2.2.2.2.2.2.2.2.2
          have AK : Hid (∀ W, Below w0.heap.size w0 W → Calls Try.prog 11 #[.agg #[.int .i64 us, .int .i64 xs, .int .i64 gs, .int .i64 (ds - 1)]] W fun e w' => e = .returned (.agg #[.int .i64 0, .int .i64 us, .int .i64 xs, .int .i64 gs, .int .i64 ds, .bool false]) ∧ Below w0.heap.size w0 w') := fun W hB => by
            have C := implPunishAccount_any us xs gs (ds - 1) W
            rw [H2.out, rv_eq] at C
            exact C.mono fun e w' ⟨h1, h2⟩ => ⟨h1, hB.trans (h2.mono hB.size)⟩
          have fl1 := run_fl1
          have na := run_neq_acc
          go_region_held3 (fun w' => w'.cell? ⟨w5.heap.size, 0, none⟩ = some (.int .i64 us) ∧ w'.cell? ⟨w5.heap.size, 1, none⟩ = some (.int .i64 xs) ∧ w'.cell? ⟨w5.heap.size, 2, none⟩ = some (.int .i64 gs) ∧ w'.cell? ⟨w5.heap.size, 3, none⟩ = some (.int .i64 ds) ∧ w'.cell? ⟨w7.heap.size, 0, none⟩ = some (.int .i64 0) ∧ w'.cell? ⟨w7.heap.size, 1, none⟩ = some (.int .i64 us) ∧ w'.cell? ⟨w7.heap.size, 2, none⟩ = some (.int .i64 xs) ∧ w'.cell? ⟨w7.heap.size, 3, none⟩ = some (.int .i64 gs) ∧ w'.cell? ⟨w7.heap.size, 4, none⟩ = some (.int .i64 (ds - 1)) ∧ w'.cell? ⟨w7.heap.size, 5, none⟩ = some (.bool false) ∧ Below w0.heap.size w0 w') (first | exact KS.out _ (by assumption) | exact KS.out _ (Below.drew (by assumption))) (first | (go_at_call 11; refine (AK.out _ (PS.out _ (by assumption))).mono ?_; rintro e w' ⟨rfl, hb9⟩))
          all_goals (go_wp2_with fail; go_meet; exact ⟨rfl, by assumption⟩)
      case rest =>
        obtain ⟨rfl, hbw⟩ := hcut
        rcases use2_form ut xt gt dt late with ⟨qq, hq, h⟩ | ⟨h0, u', x', hsum, hu0, hu1, hx0, hx1, h⟩
        ·
          have e := h.symm.trans HRt.out
          simp only [Prod.mk.injEq] at e
          obtain ⟨rfl, rfl, rfl, rfl, rfl, rfl⟩ := e
          clear h
          have hqb : (qq != 0) = true := by simp [hq]
          clear hq
          have q0At : wc.cell? ⟨w9.heap.size, 0, none⟩ = some (.int .i64 ut) := (hbw.cell (p := ⟨w9.heap.size, 0, none⟩) (Array.getElem?_eq_some_iff.1 At16.out).1).trans (cell_of_row w0 _ 0 _ _ _ At16.out)
          have q1At : wc.cell? ⟨w9.heap.size, 1, none⟩ = some (.int .i64 xt) := (hbw.cell (p := ⟨w9.heap.size, 1, none⟩) (Array.getElem?_eq_some_iff.1 At16.out).1).trans (cell_of_row w0 _ 1 _ _ _ At16.out)
          have q2At : wc.cell? ⟨w9.heap.size, 2, none⟩ = some (.int .i64 gt) := (hbw.cell (p := ⟨w9.heap.size, 2, none⟩) (Array.getElem?_eq_some_iff.1 At16.out).1).trans (cell_of_row w0 _ 2 _ _ _ At16.out)
          have q3At : wc.cell? ⟨w9.heap.size, 3, none⟩ = some (.int .i64 dt) := (hbw.cell (p := ⟨w9.heap.size, 3, none⟩) (Array.getElem?_eq_some_iff.1 At16.out).1).trans (cell_of_row w0 _ 3 _ _ _ At16.out)
          have q0Rt : wc.cell? ⟨w11.heap.size, 0, none⟩ = some (.int .i64 qq) := (hbw.cell (p := ⟨w11.heap.size, 0, none⟩) (Array.getElem?_eq_some_iff.1 Rt16.out).1).trans (cell_of_row w0 _ 0 _ _ _ Rt16.out)
          have q1Rt : wc.cell? ⟨w11.heap.size, 1, none⟩ = some (.int .i64 0) := (hbw.cell (p := ⟨w11.heap.size, 1, none⟩) (Array.getElem?_eq_some_iff.1 Rt16.out).1).trans (cell_of_row w0 _ 1 _ _ _ Rt16.out)
          have q2Rt : wc.cell? ⟨w11.heap.size, 2, none⟩ = some (.int .i64 0) := (hbw.cell (p := ⟨w11.heap.size, 2, none⟩) (Array.getElem?_eq_some_iff.1 Rt16.out).1).trans (cell_of_row w0 _ 2 _ _ _ Rt16.out)
          have q3Rt : wc.cell? ⟨w11.heap.size, 3, none⟩ = some (.int .i64 0) := (hbw.cell (p := ⟨w11.heap.size, 3, none⟩) (Array.getElem?_eq_some_iff.1 Rt16.out).1).trans (cell_of_row w0 _ 3 _ _ _ Rt16.out)
          have q4Rt : wc.cell? ⟨w11.heap.size, 4, none⟩ = some (.int .i64 0) := (hbw.cell (p := ⟨w11.heap.size, 4, none⟩) (Array.getElem?_eq_some_iff.1 Rt16.out).1).trans (cell_of_row w0 _ 4 _ _ _ Rt16.out)
          have q5Rt : wc.cell? ⟨w11.heap.size, 5, none⟩ = some (.bool false) := (hbw.cell (p := ⟨w11.heap.size, 5, none⟩) (Array.getElem?_eq_some_iff.1 Rt16.out).1).trans (cell_of_row w0 _ 5 _ _ _ Rt16.out)
          have lAt : w9.heap.size < w0.heap.size := (Array.getElem?_eq_some_iff.1 At16.out).1
          have lRt : w11.heap.size < w0.heap.size := (Array.getElem?_eq_some_iff.1 Rt16.out).1
          have KS : Hid (∀ W, Below w0.heap.size w0 W → (W.cell? ⟨w9.heap.size, 0, none⟩ = some (.int .i64 ut) ∧ W.cell? ⟨w9.heap.size, 1, none⟩ = some (.int .i64 xt) ∧ W.cell? ⟨w9.heap.size, 2, none⟩ = some (.int .i64 gt) ∧ W.cell? ⟨w9.heap.size, 3, none⟩ = some (.int .i64 dt) ∧ W.cell? ⟨w11.heap.size, 0, none⟩ = some (.int .i64 qq) ∧ W.cell? ⟨w11.heap.size, 1, none⟩ = some (.int .i64 0) ∧ W.cell? ⟨w11.heap.size, 2, none⟩ = some (.int .i64 0) ∧ W.cell? ⟨w11.heap.size, 3, none⟩ = some (.int .i64 0) ∧ W.cell? ⟨w11.heap.size, 4, none⟩ = some (.int .i64 0) ∧ W.cell? ⟨w11.heap.size, 5, none⟩ = some (.bool false) ∧ Below w0.heap.size w0 W)) := fun W hB => ⟨(hB.cell (p := ⟨w9.heap.size, 0, none⟩) lAt).trans (cell_of_row w0 _ 0 _ _ _ At16.out), (hB.cell (p := ⟨w9.heap.size, 1, none⟩) lAt).trans (cell_of_row w0 _ 1 _ _ _ At16.out), (hB.cell (p := ⟨w9.heap.size, 2, none⟩) lAt).trans (cell_of_row w0 _ 2 _ _ _ At16.out), (hB.cell (p := ⟨w9.heap.size, 3, none⟩) lAt).trans (cell_of_row w0 _ 3 _ _ _ At16.out), (hB.cell (p := ⟨w11.heap.size, 0, none⟩) lRt).trans (cell_of_row w0 _ 0 _ _ _ Rt16.out), (hB.cell (p := ⟨w11.heap.size, 1, none⟩) lRt).trans (cell_of_row w0 _ 1 _ _ _ Rt16.out), (hB.cell (p := ⟨w11.heap.size, 2, none⟩) lRt).trans (cell_of_row w0 _ 2 _ _ _ Rt16.out), (hB.cell (p := ⟨w11.heap.size, 3, none⟩) lRt).trans (cell_of_row w0 _ 3 _ _ _ Rt16.out), (hB.cell (p := ⟨w11.heap.size, 4, none⟩) lRt).trans (cell_of_row w0 _ 4 _ _ _ Rt16.out), (hB.cell (p := ⟨w11.heap.size, 5, none⟩) lRt).trans (cell_of_row w0 _ 5 _ _ _ Rt16.out), hB⟩
          have PS : Hid (∀ W, (W.cell? ⟨w9.heap.size, 0, none⟩ = some (.int .i64 ut) ∧ W.cell? ⟨w9.heap.size, 1, none⟩ = some (.int .i64 xt) ∧ W.cell? ⟨w9.heap.size, 2, none⟩ = some (.int .i64 gt) ∧ W.cell? ⟨w9.heap.size, 3, none⟩ = some (.int .i64 dt) ∧ W.cell? ⟨w11.heap.size, 0, none⟩ = some (.int .i64 qq) ∧ W.cell? ⟨w11.heap.size, 1, none⟩ = some (.int .i64 0) ∧ W.cell? ⟨w11.heap.size, 2, none⟩ = some (.int .i64 0) ∧ W.cell? ⟨w11.heap.size, 3, none⟩ = some (.int .i64 0) ∧ W.cell? ⟨w11.heap.size, 4, none⟩ = some (.int .i64 0) ∧ W.cell? ⟨w11.heap.size, 5, none⟩ = some (.bool false) ∧ Below w0.heap.size w0 W) → Below w0.heap.size w0 W) := fun W h => h.2.2.2.2.2.2.2.2.2.2
          clear KS PS
          go_wp2
          go_ret
          exact ⟨rfl, BW16.out.trans (hbw.mono (by have := BW16.out.size; omega))⟩
        ·
          have e := h.symm.trans HRt.out
          simp only [Prod.mk.injEq] at e
          obtain ⟨rfl, rfl, rfl, rfl, rfl, rfl⟩ := e
          clear h
          obtain ⟨⟨a1, a2⟩, ⟨a3, a4⟩, _, _⟩ := af_zero h0
          have HSUM : Hid (u' + x' = ut + xt + 1) := hsum
          have hs2 : (u' + x' == ut + xt + 1) = true := by simp [hsum]
          clear h0 hsum
          have q0At : wc.cell? ⟨w9.heap.size, 0, none⟩ = some (.int .i64 ut) := (hbw.cell (p := ⟨w9.heap.size, 0, none⟩) (Array.getElem?_eq_some_iff.1 At16.out).1).trans (cell_of_row w0 _ 0 _ _ _ At16.out)
          have q1At : wc.cell? ⟨w9.heap.size, 1, none⟩ = some (.int .i64 xt) := (hbw.cell (p := ⟨w9.heap.size, 1, none⟩) (Array.getElem?_eq_some_iff.1 At16.out).1).trans (cell_of_row w0 _ 1 _ _ _ At16.out)
          have q2At : wc.cell? ⟨w9.heap.size, 2, none⟩ = some (.int .i64 gt) := (hbw.cell (p := ⟨w9.heap.size, 2, none⟩) (Array.getElem?_eq_some_iff.1 At16.out).1).trans (cell_of_row w0 _ 2 _ _ _ At16.out)
          have q3At : wc.cell? ⟨w9.heap.size, 3, none⟩ = some (.int .i64 dt) := (hbw.cell (p := ⟨w9.heap.size, 3, none⟩) (Array.getElem?_eq_some_iff.1 At16.out).1).trans (cell_of_row w0 _ 3 _ _ _ At16.out)
          have q0Rt : wc.cell? ⟨w11.heap.size, 0, none⟩ = some (.int .i64 0) := (hbw.cell (p := ⟨w11.heap.size, 0, none⟩) (Array.getElem?_eq_some_iff.1 Rt16.out).1).trans (cell_of_row w0 _ 0 _ _ _ Rt16.out)
          have q1Rt : wc.cell? ⟨w11.heap.size, 1, none⟩ = some (.int .i64 u') := (hbw.cell (p := ⟨w11.heap.size, 1, none⟩) (Array.getElem?_eq_some_iff.1 Rt16.out).1).trans (cell_of_row w0 _ 1 _ _ _ Rt16.out)
          have q2Rt : wc.cell? ⟨w11.heap.size, 2, none⟩ = some (.int .i64 x') := (hbw.cell (p := ⟨w11.heap.size, 2, none⟩) (Array.getElem?_eq_some_iff.1 Rt16.out).1).trans (cell_of_row w0 _ 2 _ _ _ Rt16.out)
          have q3Rt : wc.cell? ⟨w11.heap.size, 3, none⟩ = some (.int .i64 gt) := (hbw.cell (p := ⟨w11.heap.size, 3, none⟩) (Array.getElem?_eq_some_iff.1 Rt16.out).1).trans (cell_of_row w0 _ 3 _ _ _ Rt16.out)
          have q4Rt : wc.cell? ⟨w11.heap.size, 4, none⟩ = some (.int .i64 dt) := (hbw.cell (p := ⟨w11.heap.size, 4, none⟩) (Array.getElem?_eq_some_iff.1 Rt16.out).1).trans (cell_of_row w0 _ 4 _ _ _ Rt16.out)
          have q5Rt : wc.cell? ⟨w11.heap.size, 5, none⟩ = some (.bool false) := (hbw.cell (p := ⟨w11.heap.size, 5, none⟩) (Array.getElem?_eq_some_iff.1 Rt16.out).1).trans (cell_of_row w0 _ 5 _ _ _ Rt16.out)
          have lAt : w9.heap.size < w0.heap.size := (Array.getElem?_eq_some_iff.1 At16.out).1
          have lRt : w11.heap.size < w0.heap.size := (Array.getElem?_eq_some_iff.1 Rt16.out).1
          have KS : Hid (∀ W, Below w0.heap.size w0 W → (W.cell? ⟨w9.heap.size, 0, none⟩ = some (.int .i64 ut) ∧ W.cell? ⟨w9.heap.size, 1, none⟩ = some (.int .i64 xt) ∧ W.cell? ⟨w9.heap.size, 2, none⟩ = some (.int .i64 gt) ∧ W.cell? ⟨w9.heap.size, 3, none⟩ = some (.int .i64 dt) ∧ W.cell? ⟨w11.heap.size, 0, none⟩ = some (.int .i64 0) ∧ W.cell? ⟨w11.heap.size, 1, none⟩ = some (.int .i64 u') ∧ W.cell? ⟨w11.heap.size, 2, none⟩ = some (.int .i64 x') ∧ W.cell? ⟨w11.heap.size, 3, none⟩ = some (.int .i64 gt) ∧ W.cell? ⟨w11.heap.size, 4, none⟩ = some (.int .i64 dt) ∧ W.cell? ⟨w11.heap.size, 5, none⟩ = some (.bool false) ∧ Below w0.heap.size w0 W)) := fun W hB => ⟨(hB.cell (p := ⟨w9.heap.size, 0, none⟩) lAt).trans (cell_of_row w0 _ 0 _ _ _ At16.out), (hB.cell (p := ⟨w9.heap.size, 1, none⟩) lAt).trans (cell_of_row w0 _ 1 _ _ _ At16.out), (hB.cell (p := ⟨w9.heap.size, 2, none⟩) lAt).trans (cell_of_row w0 _ 2 _ _ _ At16.out), (hB.cell (p := ⟨w9.heap.size, 3, none⟩) lAt).trans (cell_of_row w0 _ 3 _ _ _ At16.out), (hB.cell (p := ⟨w11.heap.size, 0, none⟩) lRt).trans (cell_of_row w0 _ 0 _ _ _ Rt16.out), (hB.cell (p := ⟨w11.heap.size, 1, none⟩) lRt).trans (cell_of_row w0 _ 1 _ _ _ Rt16.out), (hB.cell (p := ⟨w11.heap.size, 2, none⟩) lRt).trans (cell_of_row w0 _ 2 _ _ _ Rt16.out), (hB.cell (p := ⟨w11.heap.size, 3, none⟩) lRt).trans (cell_of_row w0 _ 3 _ _ _ Rt16.out), (hB.cell (p := ⟨w11.heap.size, 4, none⟩) lRt).trans (cell_of_row w0 _ 4 _ _ _ Rt16.out), (hB.cell (p := ⟨w11.heap.size, 5, none⟩) lRt).trans (cell_of_row w0 _ 5 _ _ _ Rt16.out), hB⟩
          have PS : Hid (∀ W, (W.cell? ⟨w9.heap.size, 0, none⟩ = some (.int .i64 ut) ∧ W.cell? ⟨w9.heap.size, 1, none⟩ = some (.int .i64 xt) ∧ W.cell? ⟨w9.heap.size, 2, none⟩ = some (.int .i64 gt) ∧ W.cell? ⟨w9.heap.size, 3, none⟩ = some (.int .i64 dt) ∧ W.cell? ⟨w11.heap.size, 0, none⟩ = some (.int .i64 0) ∧ W.cell? ⟨w11.heap.size, 1, none⟩ = some (.int .i64 u') ∧ W.cell? ⟨w11.heap.size, 2, none⟩ = some (.int .i64 x') ∧ W.cell? ⟨w11.heap.size, 3, none⟩ = some (.int .i64 gt) ∧ W.cell? ⟨w11.heap.size, 4, none⟩ = some (.int .i64 dt) ∧ W.cell? ⟨w11.heap.size, 5, none⟩ = some (.bool false) ∧ Below w0.heap.size w0 W) → Below w0.heap.size w0 W) := fun W h => h.2.2.2.2.2.2.2.2.2.2
          clear KS PS
          go_wp2
          go_ret
          exact ⟨rfl, BW16.out.trans (hbw.mono (by have := BW16.out.size; omega))⟩

end Go.Proofs.Ytmbgelhkodjilaa
