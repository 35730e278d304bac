/-
  For every account and both answers to late, FnExactUseTick returns true and leaves its arguments as they were. No conditions.
-/
import Derived.Test.YtmbgelhkodjilaaAcc2
import Derived.Test.YtmbgelhkodjilaaImplAcc2
import Derived.Test.YtmbgelhkodjilaaAccLaw
namespace Go.Proofs.Ytmbgelhkodjilaa
open Go.ChangeShapes Go.WideShapes Go.ChangeAt Go.RowKit

theorem walkUseTick (u x g d : Int) (late : Bool) (w : World) :
    Calls Try.prog 5 #[.agg #[.int .i64 u, .int .i64 x, .int .i64 g, .int .i64 d], .bool late] w fun e w' => e = .returned (.bool true) ∧ Below w.heap.size w w' := by
  obtain ⟨q, u', x', g', d', b', hr⟩ := six (use2 u x g d late)
  have CS : Hid (∀ W, Calls Try.prog 20 #[.agg #[.int .i64 u, .int .i64 x, .int .i64 g, .int .i64 d], .bool late] W fun e w' => e = .returned (.agg #[.int .i64 q, .int .i64 u', .int .i64 x', .int .i64 g', .int .i64 d', .bool b']) ∧ Below W.heap.size W w') := fun W => by
    have := specUseTick_any u x g d late W
    rwa [hr, rv_eq] at this
  have CI : Hid (∀ W, Calls Try.prog 15 #[.agg #[.int .i64 u, .int .i64 x, .int .i64 g, .int .i64 d], .bool late] W fun e w' => e = .returned (.agg #[.int .i64 q, .int .i64 u', .int .i64 x', .int .i64 g', .int .i64 d', .bool b']) ∧ Below W.heap.size W w') := fun W => by
    have := implUseTick_any u x g d late W
    rwa [hr, rv_eq] at this
  have B0 := Lib.hid (below_new w (.cells #[.int .i64 u, .int .i64 x, .int .i64 g, .int .i64 d] 34))
  have K0 := Lib.hid (heap_alloc_new w (.cells #[.int .i64 u, .int .i64 x, .int .i64 g, .int .i64 d] 34))
  clear hr
  go_enter Try.func5, Try.ntmps5
  go_wp2_with fail
  refine (toAccount_any u x g d _).mono ?_
  rintro e w1 ⟨rfl, hb1⟩
  have s1 : w.heap.size < w1.heap.size := by have := hb1.size; simp at this; omega
  have B1 := Lib.hid (B0.out.trans (hb1.mono (by simp)))
  have K1 := Lib.hid ((hb1.block w.heap.size (by simp)).trans K0.out)
  clear hb1
  go_wp2_with fail
  refine (CS.out _).mono ?_
  rintro e w2 ⟨rfl, hb2⟩
  have s2 : w1.heap.size ≤ w2.heap.size := hb2.size
  have B2 := Lib.hid ((B1.out.trans (hb2.mono (by omega))).alloc (by omega) (.cells #[.int .i64 q, .int .i64 u', .int .i64 x', .int .i64 g', .int .i64 d', .bool b'] 28))
  have K2 := Lib.hid ((Below.heap_alloc w2 (.cells #[.int .i64 q, .int .i64 u', .int .i64 x', .int .i64 g', .int .i64 d', .bool b'] 28) w.heap.size (by omega)).trans ((hb2.block w.heap.size s1).trans K1.out))
  have J2 := Lib.hid (heap_alloc_new w2 (.cells #[.int .i64 q, .int .i64 u', .int .i64 x', .int .i64 g', .int .i64 d', .bool b'] 28))
  clear hb2 B1 K1
  have k2 := K2.out
  have c0 := cell_of_row _ _ 0 _ _ _ k2
  have c1 := cell_of_row _ _ 1 _ _ _ k2
  have c2 := cell_of_row _ _ 2 _ _ _ k2
  have c3 := cell_of_row _ _ 3 _ _ _ k2
  simp at c0 c1 c2 c3
  clear k2
  go_wp2_with fail
  clear c0 c1 c2 c3
  refine (toAccount_any u x g d _).mono ?_
  rintro e w3 ⟨rfl, hb3⟩
  have s3 : w2.heap.size < w3.heap.size := by have := hb3.size; simp at this; omega
  have B3 := Lib.hid (B2.out.trans (hb3.mono (by simp; omega)))
  have J3 := Lib.hid ((hb3.block w2.heap.size (by simp)).trans J2.out)
  clear hb3 B2 J2 K2
  go_wp2_with fail
  refine (CI.out _).mono ?_
  rintro e w4 ⟨rfl, hb4⟩
  have s4 : w3.heap.size ≤ w4.heap.size := hb4.size
  have B4 := Lib.hid ((B3.out.trans (hb4.mono (by omega))).alloc (by omega) (.cells #[.int .i64 q, .int .i64 u', .int .i64 x', .int .i64 g', .int .i64 d', .bool b'] 28))
  have j4 := (Below.heap_alloc w4 (.cells #[.int .i64 q, .int .i64 u', .int .i64 x', .int .i64 g', .int .i64 d', .bool b'] 28) w2.heap.size (by omega)).trans ((hb4.block w2.heap.size s3).trans J3.out)
  have c0 := cell_of_row _ _ 0 _ _ _ j4
  have c1 := cell_of_row _ _ 1 _ _ _ j4
  have c2 := cell_of_row _ _ 2 _ _ _ j4
  have c3 := cell_of_row _ _ 3 _ _ _ j4
  have c4 := cell_of_row _ _ 4 _ _ _ j4
  have c5 := cell_of_row _ _ 5 _ _ _ j4
  simp at c0 c1 c2 c3 c4 c5
  clear hb4 j4 B3 J3
  go_wp2_with fail
  clear c0 c1 c2 c3 c4 c5
  refine (eqAccountResult_same q u' x' g' d' b' _).mono ?_
  rintro e w5 ⟨rfl, hb5⟩
  have B5 := Lib.hid (B4.out.trans (hb5.mono (by simp; omega)))
  clear hb5
  go_wp2
  go_ret
  exact ⟨rfl, B5.out⟩

set_option maxRecDepth 100000 in
theorem liftedUseTick (os : Os) (started : os.Started) (H : Type) (enc : TypeId × Value → H) :
    ReturnsInHanded {} Try.checked os 5 .any (Rows.fnExactUseTickSpec.pre6 enc Try.prog Try.f5 Rows.fnExactUseTickRow.domain false) (Rows.fnExactUseTickSpec.post enc Try.prog Try.f5 false true false false) := by
  refine returnsInHanded_of_change (C := Try.checked) own started (by kernel_rfl) Try.func5
    (ChangeSpec.witness6 (enc := enc) (C := Try.checked) false ⟨#[], #[.agg #[.int .i64 0, .int .i64 0, .int .i64 0, .int .i64 0], .bool false], []⟩ 8 (by kernel_rfl) (by kernel_rfl) (by kernel_rfl) (by kernel_rfl)) ?_
  intro W base args ds gs before hval0 hW _ _
  have hval : ∀ (j : Nat) t v, Try.f5.params[j]? = some t → args[j]? = some v → Value.okWide Try.prog W .any base t v := hval0
  have hW' := hW
  obtain ⟨p, q, hA0, hV, rfl, _, _⟩ := hW
  have hA : DataW.TrodAll enc Try.prog W 0 (fun _ => true) true Try.f5.params.toList args.toList ds p := hA0
  rw [Try.params5] at hA hval
  obtain ⟨v0, vs0, d0, ds0, p0, q0, hargs, rfl, rfl, h0, r0⟩ := trodAll_cons hA
  obtain ⟨v1, vs1, d1, ds1, p1, q1, rfl, rfl, rfl, h1, r1⟩ := trodAll_cons r0
  obtain ⟨rfl, rfl, rfl⟩ := trodAll_nil r1
  obtain rfl : args = #[v0, v1] := by cases args; simp_all
  obtain ⟨rfl, rfl⟩ := trodVars_none hV
  obtain ⟨u, x, g, d, rfl⟩ := open_acc (hval 0 _ v0 rfl rfl) h0
  obtain ⟨late, rfl, _, _⟩ := open_bool Try.underlying4 (hval 1 _ v1 rfl rfl) h1
  exact law_post hW' rfl rfl (by kernel_rfl) (by kernel_rfl) (walkUseTick u x g d late W)

theorem fnExactUseTick_holds : Rows.FnExactUseTickSaid :=
  OpenClaim.holds_of_wide 5 Try.f5 rfl rfl rfl rfl rfl rfl rfl ⟨rfl, rfl, rfl, rfl, rfl⟩ rfl rfl rfl rfl rfl (by kernel_rfl) Try.func5 (by kernel_rfl)
    (of_decide_eq_true (by kernel_rfl)) (by unfold Func.isWrapper; first | (rw [if_pos (by decide +kernel)]; kernel_rfl) | (rw [if_neg (by decide +kernel)]; exact ⟨rfl, rfl⟩))
    (fun os started H enc _ => liftedUseTick os started H enc)
#print axioms fnExactUseTick_holds

end Go.Proofs.Ytmbgelhkodjilaa
