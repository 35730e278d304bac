/-
  The model's l3Copy, l3Call and DoCall.
  Ahead of it:
  The model's KernelFault, for every kernel that can be read. No conditions beyond that its lists can be read.
-/
import Derived.StillTailTactics
import Derived.Test.YtkhphkfbjbhgaaaGreatKer2
import Derived.Test.YtkhphkfbjbhgaaaGreatSpec1c
import Derived.Test.YtkhphkfbjbhgaaaGreatSpec3a
namespace Go.Proofs.YtkhphkfbjbhgaaaGreat
open Go.RowKit

set_option maxHeartbeats 1000000 in
theorem run_neq_zacc (u x g d : Int) (z : Bool) (h : (u == 0 && x == 0 && g == 0 && d == 0) = !z) (W : World) : (binOp .neq 88 (.agg #[.int .i64 u, .int .i64 x, .int .i64 g, .int .i64 d]) (.agg #[.int .i64 0, .int .i64 0, .int .i64 0, .int .i64 0])).run Tryz.prog W = .ok (.bool z) W := by
  obtain rfl : z = !(u == 0 && x == 0 && g == 0 && d == 0) := by rw [h]; simp
  simp [go_sem]
  try grind

set_option maxHeartbeats 1000000 in
theorem specPhase_any (g : Nat) (t : Int) (w : World) (ht : 0 ≤ t) (q3 : w.cell? ⟨g, 3, none⟩ = some (.int .i64 t)) :
    Calls Tryz.prog 129 #[.pointer (some ⟨g, 0, none⟩)] w fun e w' => e = .returned (.int .i64 (t % 9)) ∧ w = w' := by
  have hmod : t.tmod 9 = t % 9 := Int.tmod_eq_emod_of_nonneg ht
  go_enter Tryz.func129, Tryz.ntmps129
  go_wp2
  go_ret
  exact ⟨by first | rfl | exact ret_i64 hmod, rfl⟩

end Go.Proofs.YtkhphkfbjbhgaaaGreat

namespace Go.Proofs.YtkhphkfbjbhgaaaGreat
open Go.RowKit
set_option maxRecDepth 100000

/-- the bools of a list as values -/
def bvals (xs : List Bool) : List Value := xs.map Value.bool
set_option maxHeartbeats 1000000 in
theorem bvals_get (xs : List Bool) (k : Nat) (h : k < xs.length) : (bvals xs)[k]? = some (.bool (gb xs k)) := by
  simp [bvals, h, gb_lt xs k h]
set_option maxHeartbeats 1000000 in
theorem bvals_getD (xs : List Bool) (k : Nat) (h : k < xs.length) : (bvals xs).getD k undef = .bool (gb xs k) := by
  rw [List.getD_eq_getElem?_getD, bvals_get xs k h]; rfl
set_option maxHeartbeats 1000000 in
theorem Tryz.info_b4 : (Tryz.prog.info? 4).map (fun i => (i.zero, i.size, i.bytes)) = some (some (.bool false), 1, 1) := by kernel_rfl
set_option maxHeartbeats 1000000 in
theorem Tryz.info_a4 : (Tryz.prog.info? 88).map (fun i => (i.zero, i.size, i.bytes)) = some (some (.agg #[.int .i64 0, .int .i64 0, .int .i64 0, .int .i64 0]), 4, 32) := by kernel_rfl

end Go.Proofs.YtkhphkfbjbhgaaaGreat
