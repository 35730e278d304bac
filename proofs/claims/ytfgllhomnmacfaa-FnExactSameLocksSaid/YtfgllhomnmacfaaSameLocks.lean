/-
  FnExactSameLocks holds: whatever the two locks that came in, the program's SameLocks answers as the model's. No conditions.
-/
import Derived.Test.YtfgllhomnmacfaaOpen6p
import Derived.Test.YtfgllhomnmacfaaSameLocksW
namespace Go.Proofs.Ytfgllhomnmacfaa
open Go.ChangeShapes Go.WideShapes Go.ChangeAt Go.RowKit

set_option maxRecDepth 100000 in
theorem liftedSameLocks (os : Os) (started : os.Started) (H : Type) (enc : TypeId × Value → H) :
    ReturnsInHanded {} Try.checked os 3 .any (Rows.fnExactSameLocksSpec.pre6 enc Try.prog Try.f3 Rows.fnExactSameLocksRow.domain false) (Rows.fnExactSameLocksSpec.post enc Try.prog Try.f3 false true false false) := by
  refine returnsInHanded_of_change (C := Try.checked) own started (by kernel_rfl) Try.func3
    (ChangeSpec.witness6 (enc := enc) (C := Try.checked) false ⟨#[], #[.agg #[.int .i64 0, .slice none 0 0], .agg #[.int .i64 0, .slice none 0 0]], []⟩ 8 (by kernel_rfl) (by kernel_rfl) (by kernel_rfl) (by kernel_rfl)) ?_
  intro W base args ds gs before hval0 hW _ _
  have hval : ∀ (j : Nat) t v, Try.f3.params[j]? = some t → args[j]? = some v → Value.okWide Try.prog W .any base t v := hval0
  have hW' := hW
  obtain ⟨p, q, hA0, hV, rfl, _, _⟩ := hW
  have hA : DataW.TrodAll enc Try.prog W 0 (fun _ => true) true Try.f3.params.toList args.toList ds p := hA0
  rw [Try.params3] at hA hval
  obtain ⟨v0, vs0, d0, ds0, p0, q0, hargs, rfl, rfl, h0, r0⟩ := trodAll_cons hA
  obtain ⟨v1, vs1, d1, ds1, p1, q1, rfl, rfl, rfl, h1, r1⟩ := trodAll_cons r0
  obtain ⟨rfl, rfl, rfl⟩ := trodAll_nil r1
  obtain rfl : args = #[v0, v1] := by cases args; simp_all
  obtain ⟨rfl, rfl⟩ := trodVars_none hV
  obtain ⟨A, n, c, o, xs, rfl, hnc, hcm, hnn, hl, hsl⟩ := open_lock (hval 0 _ v0 rfl rfl) h0
  obtain ⟨A2, n2, c2, o2, xs2, rfl, hnc2, hcm2, hnn2, hl2, hsl2⟩ := open_lock (hval 1 _ v1 rfl rfl) h1
  exact law_post hW' rfl rfl (by kernel_rfl) (by kernel_rfl) (walkSameLocks A n c o xs A2 n2 c2 o2 xs2 W (by have : maxLen = 9223372036854775807 := rfl; omega) hl hsl (by have : maxLen = 9223372036854775807 := rfl; omega) hl2 hsl2)

theorem fnExactSameLocks_holds : Rows.FnExactSameLocksSaid :=
  OpenClaim.holds_of_wide 3 Try.f3 rfl rfl rfl rfl rfl rfl rfl ⟨rfl, rfl, rfl, rfl, rfl⟩ rfl rfl rfl rfl rfl (by kernel_rfl) Try.func3 (by kernel_rfl)
    (of_decide_eq_true (by kernel_rfl)) (by unfold Func.isWrapper; first | (rw [if_pos (by decide +kernel)]; kernel_rfl) | (rw [if_neg (by decide +kernel)]; exact ⟨rfl, rfl⟩))
    (fun os started H enc _ => liftedSameLocks os started H enc)
#print axioms fnExactSameLocks_holds

end Go.Proofs.Ytfgllhomnmacfaa
