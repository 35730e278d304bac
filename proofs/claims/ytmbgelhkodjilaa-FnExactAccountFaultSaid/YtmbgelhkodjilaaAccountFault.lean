/-
  For every account, FnExactAccountFault returns true and leaves its arguments as they were. No conditions.
-/
import Derived.Test.YtmbgelhkodjilaaAcc2
import Derived.Test.YtmbgelhkodjilaaImplAcc2
import Derived.Test.YtmbgelhkodjilaaAccLaw
namespace Go.Proofs.Ytmbgelhkodjilaa
open Go.ChangeShapes Go.WideShapes Go.ChangeAt Go.RowKit

theorem walkAccountFault (u x g d : Int) (w : World) :
    Calls Try.prog 4 #[.agg #[.int .i64 u, .int .i64 x, .int .i64 g, .int .i64 d]] w fun e w' => e = .returned (.bool true) ∧ Below w.heap.size w w' := by
  have B0 := Lib.hid (below_new w (.cells #[.int .i64 u, .int .i64 x, .int .i64 g, .int .i64 d] 34))
  have K0 := Lib.hid (heap_alloc_new w (.cells #[.int .i64 u, .int .i64 x, .int .i64 g, .int .i64 d] 34))
  go_enter Try.func4, Try.ntmps4
  go_wp2_with fail
  refine (toAccount_any u x g d _).mono ?_
  rintro e w1 ⟨rfl, hb1⟩
  have s1 : w.heap.size < w1.heap.size := by have := hb1.size; simp at this; omega
  have B1 := Lib.hid (B0.out.trans (hb1.mono (by simp)))
  have K1 := Lib.hid ((hb1.block w.heap.size (by simp)).trans K0.out)
  clear hb1
  go_wp2_with fail
  refine (specAccountFault_any u x g d _).mono ?_
  rintro e w2 ⟨rfl, hb2⟩
  have s2 : w1.heap.size ≤ w2.heap.size := hb2.size
  have B2 := Lib.hid (B1.out.trans (hb2.mono (by omega)))
  have k2 := (hb2.block w.heap.size s1).trans K1.out
  clear hb2 B1 K1
  have c0 := cell_of_row _ _ 0 _ _ _ k2
  have c1 := cell_of_row _ _ 1 _ _ _ k2
  have c2 := cell_of_row _ _ 2 _ _ _ k2
  have c3 := cell_of_row _ _ 3 _ _ _ k2
  simp at c0 c1 c2 c3
  clear k2
  go_wp2_with fail
  clear c0 c1 c2 c3
  refine (toAccount_any u x g d _).mono ?_
  rintro e w3 ⟨rfl, hb3⟩
  have B3 := Lib.hid (B2.out.trans (hb3.mono (by omega)))
  clear hb3 B2
  go_wp2_with fail
  refine (implAccountFault_any u x g d _).mono ?_
  rintro e w4 ⟨rfl, hb4⟩
  have B4 := Lib.hid (B3.out.trans (hb4.mono B3.out.size))
  clear hb4 B3
  go_wp2
  go_ret
  exact ⟨rfl, B4.out⟩

set_option maxRecDepth 100000 in
theorem liftedAccountFault (os : Os) (started : os.Started) (H : Type) (enc : TypeId × Value → H) :
    ReturnsInHanded {} Try.checked os 4 .any (Rows.fnExactAccountFaultSpec.pre6 enc Try.prog Try.f4 Rows.fnExactAccountFaultRow.domain false) (Rows.fnExactAccountFaultSpec.post enc Try.prog Try.f4 false true false false) := by
  refine returnsInHanded_of_change (C := Try.checked) own started (by kernel_rfl) Try.func4
    (ChangeSpec.witness6 (enc := enc) (C := Try.checked) false ⟨#[], #[.agg #[.int .i64 0, .int .i64 0, .int .i64 0, .int .i64 0]], []⟩ 8 (by kernel_rfl) (by kernel_rfl) (by kernel_rfl) (by kernel_rfl)) ?_
  intro W base args ds gs before hval0 hW _ _
  have hval : ∀ (j : Nat) t v, Try.f4.params[j]? = some t → args[j]? = some v → Value.okWide Try.prog W .any base t v := hval0
  have hW' := hW
  obtain ⟨p, q, hA0, hV, rfl, _, _⟩ := hW
  have hA : DataW.TrodAll enc Try.prog W 0 (fun _ => true) true Try.f4.params.toList args.toList ds p := hA0
  rw [Try.params4] at hA hval
  obtain ⟨v0, vs0, d0, ds0, p0, q0, hargs, rfl, rfl, h0, r0⟩ := trodAll_cons hA
  obtain ⟨rfl, rfl, rfl⟩ := trodAll_nil r0
  obtain rfl : args = #[v0] := by cases args; simp_all
  obtain ⟨rfl, rfl⟩ := trodVars_none hV
  obtain ⟨u, x, g, d, rfl⟩ := open_acc (hval 0 _ v0 rfl rfl) h0
  exact law_post hW' rfl rfl (by kernel_rfl) (by kernel_rfl) (walkAccountFault u x g d W)

theorem fnExactAccountFault_holds : Rows.FnExactAccountFaultSaid :=
  OpenClaim.holds_of_wide 4 Try.f4 rfl rfl rfl rfl rfl rfl rfl ⟨rfl, rfl, rfl, rfl, rfl⟩ rfl rfl rfl rfl rfl (by kernel_rfl) Try.func4 (by kernel_rfl)
    (of_decide_eq_true (by kernel_rfl)) (by unfold Func.isWrapper; first | (rw [if_pos (by decide +kernel)]; kernel_rfl) | (rw [if_neg (by decide +kernel)]; exact ⟨rfl, rfl⟩))
    (fun os started H enc _ => liftedAccountFault os started H enc)
#print axioms fnExactAccountFault_holds

end Go.Proofs.Ytmbgelhkodjilaa
