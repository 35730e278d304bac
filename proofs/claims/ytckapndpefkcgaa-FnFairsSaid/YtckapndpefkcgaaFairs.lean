/-
  For every code, FnFairs returns true and leaves the code as it was. No conditions.
-/
import Derived.Test.YtckapndpefkcgaaFairsW
import Derived.Test.YtckapndpefkcgaaU8s
set_option maxHeartbeats 1000000
namespace Go.Proofs.Ytckapndpefkcgaa
open Go.ChangeShapes Go.WideShapes Go.ChangeAt Go.RowKit

set_option maxRecDepth 100000 in
theorem walkFairsBig (A : Option Addr) (k c : Nat) (w : World) (hk : 1048576 < k) :
    Calls Try.prog 4 #[.slice A k c] w fun e w' => e = .returned (.bool true) ∧ Below w.heap.size w w' := by
  go_enter Try.func4, Try.ntmps4
  go_wp2_with (go_at_call 7; refine (lwBig_any _ _ _ _).mono ?_; rintro e w' ⟨rfl, rfl⟩)
  go_ret
  exact ⟨rfl, Below.refl _ _⟩

set_option maxRecDepth 100000 in
theorem liftedFairs (os : Os) (started : os.Started) (H : Type) (enc : TypeId × Value → H) :
    ReturnsInHanded {} Try.checked os 4 .any (Rows.fnFairsSpec.pre6 enc Try.prog Try.f4 Rows.fnFairsRow.domain false) (Rows.fnFairsSpec.post enc Try.prog Try.f4 false true false false) := by
  refine returnsInHanded_of_change (C := Try.checked) own started (by kernel_rfl) Try.func4
    (ChangeSpec.witness6 (enc := enc) (C := Try.checked) false ⟨#[], #[.slice none 0 0], []⟩ 8 (by kernel_rfl) (by kernel_rfl) (by kernel_rfl) (by kernel_rfl)) ?_
  intro W base args ds gs before hval0 hW _ _
  have hval : ∀ (j : Nat) t v, Try.f4.params[j]? = some t → args[j]? = some v → Value.okWide Try.prog W .any base t v := hval0
  have hW' := hW
  obtain ⟨p, q, hA0, hV, rfl, _, _⟩ := hW
  have hA : DataW.TrodAll enc Try.prog W 0 (fun _ => true) true Try.f4.params.toList args.toList ds p := hA0
  rw [Try.params4] at hA hval
  obtain ⟨v0, vs0, d0, ds0, p0, q0, hargs, rfl, rfl, h0, r0⟩ := trodAll_cons hA
  obtain ⟨rfl, rfl, rfl⟩ := trodAll_nil r0
  obtain rfl : args = #[v0] := by cases args; simp_all
  obtain ⟨rfl, rfl⟩ := trodVars_none hV
  obtain ⟨A0, n0, c0, xs0, rfl, _, e0, s0, b0⟩ := open_u8s (hval 0 _ v0 rfl rfl) h0
  by_cases hk : n0 ≤ 1048576
  · exact law_post hW' rfl rfl (by kernel_rfl) (by kernel_rfl) (walkFairs A0 n0 c0 (gi xs0) W s0 b0 hk)
  · exact law_post hW' rfl rfl (by kernel_rfl) (by kernel_rfl) (walkFairsBig A0 n0 c0 W (by omega))

theorem fnFairs_holds : Rows.FnFairsSaid :=
  OpenClaim.holds_of_wide 4 Try.f4 rfl rfl rfl rfl rfl rfl rfl ⟨rfl, rfl, rfl, rfl, rfl⟩ rfl rfl rfl rfl rfl (by kernel_rfl) Try.func4 (by kernel_rfl)
    (of_decide_eq_true (by kernel_rfl)) (by unfold Func.isWrapper; first | (rw [if_pos (by decide +kernel)]; kernel_rfl) | (rw [if_neg (by decide +kernel)]; exact ⟨rfl, rfl⟩))
    (fun os started H enc _ => liftedFairs os started H enc)
#print axioms fnFairs_holds

end Go.Proofs.Ytckapndpefkcgaa
