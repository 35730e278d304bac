/-
  FnExactSameKernels holds: whatever the two kernels that came in, the program's SameKernels answers as the model's. No conditions.
-/
import Derived.Test.YteigjjgekkcfkaaOpen3
import Derived.Test.YteigjjgekkcfkaaSameKernelsW
namespace Go.Proofs.Yteigjjgekkcfkaa
open Go.ChangeShapes Go.WideShapes Go.ChangeAt Go.RowKit

set_option maxRecDepth 100000 in
theorem liftedSameKernels (os : Os) (started : os.Started) (H : Type) (enc : TypeId × Value → H) :
    ReturnsInHanded {} Try.checked os 8 .any (Rows.fnExactSameKernelsSpec.pre6 enc Try.prog Try.f8 Rows.fnExactSameKernelsRow.domain false) (Rows.fnExactSameKernelsSpec.post enc Try.prog Try.f8 false true false false) := by
  refine returnsInHanded_of_change (C := Try.checked) own started (by kernel_rfl) Try.func8
    (ChangeSpec.witness6 (enc := enc) (C := Try.checked) false ⟨#[], #[.agg #[.slice none 0 0, .slice none 0 0, .slice none 0 0, .int .i64 0, .int .i64 0], .agg #[.slice none 0 0, .slice none 0 0, .slice none 0 0, .int .i64 0, .int .i64 0]], []⟩ 8 (by kernel_rfl) (by kernel_rfl) (by kernel_rfl) (by kernel_rfl)) ?_
  intro W base args ds gs before hval0 hW _ _
  have hval : ∀ (j : Nat) t v, Try.f8.params[j]? = some t → args[j]? = some v → Value.okWide Try.prog W .any base t v := hval0
  have hW' := hW
  obtain ⟨p, q, hA0, hV, rfl, _, _⟩ := hW
  have hA : DataW.TrodAll enc Try.prog W 0 (fun _ => true) true Try.f8.params.toList args.toList ds p := hA0
  rw [Try.params8] at hA hval
  obtain ⟨v0, vs0, d0, ds0, p0, q0, hargs, rfl, rfl, h0, r0⟩ := trodAll_cons hA
  obtain ⟨v1, vs1, d1, ds1, p1, q1, rfl, rfl, rfl, h1, r1⟩ := trodAll_cons r0
  obtain ⟨rfl, rfl, rfl⟩ := trodAll_nil r1
  obtain rfl : args = #[v0, v1] := by cases args; simp_all
  obtain ⟨rfl, rfl⟩ := trodVars_none hV
  obtain ⟨A1, n1, c1, A2, n2, c2, A3, n3, c3, K, rfl, hk, ha, m1, m2, m3⟩ := open_kernel (hval 0 _ v0 rfl rfl) h0
  obtain ⟨A1', n1', c1', A2', n2', c2', A3', n3', c3', L, rfl, hk', ha', m1', m2', m3'⟩ := open_kernel (hval 1 _ v1 rfl rfl) h1
  exact law_post hW' rfl rfl (by kernel_rfl) (by kernel_rfl) (walkSameKernels A1 n1 c1 A2 n2 c2 A3 n3 c3 A1' n1' c1' A2' n2' c2' A3' n3' c3' K L W hk hk' m1 m2 m3 m1' m2' m3')

theorem fnExactSameKernels_holds : Rows.FnExactSameKernelsSaid :=
  OpenClaim.holds_of_wide 8 Try.f8 rfl rfl rfl rfl rfl rfl rfl ⟨rfl, rfl, rfl, rfl, rfl⟩ rfl rfl rfl rfl rfl (by kernel_rfl) Try.func8 (by kernel_rfl)
    (of_decide_eq_true (by kernel_rfl)) (by unfold Func.isWrapper; first | (rw [if_pos (by decide +kernel)]; kernel_rfl) | (rw [if_neg (by decide +kernel)]; exact ⟨rfl, rfl⟩))
    (fun os started H enc _ => liftedSameKernels os started H enc)
#print axioms fnExactSameKernels_holds

end Go.Proofs.Yteigjjgekkcfkaa
