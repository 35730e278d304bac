/-
  FnExactSameLibs holds: whatever the two libraries that came in, the program's SameLibs answers as the model's. No conditions.
-/
import Derived.Test.YtachpoehejdpjaaLaw
import Derived.Test.YtachpoehejdpjaaSameLibsW
import Derived.Test.YtachpoehejdpjaaOpenL7
namespace Go.Proofs.Ytachpoehejdpjaa
open Go.ChangeShapes Go.WideShapes Go.ChangeAt Go.RowKit

set_option maxRecDepth 100000 in
theorem liftedSameLibs (os : Os) (started : os.Started) (H : Type) (enc : TypeId × Value → H) :
    ReturnsInHanded {} Try.checked os 6 .any (Rows.fnExactSameLibsSpec.pre6 enc Try.prog Try.f6 Rows.fnExactSameLibsRow.domain false) (Rows.fnExactSameLibsSpec.post enc Try.prog Try.f6 false true false false) := by
  refine returnsInHanded_of_change (C := Try.checked) own started (by kernel_rfl) Try.func6
    (ChangeSpec.witness6 (enc := enc) (C := Try.checked) false ⟨#[], #[.agg #[.int .i64 0, .slice none 0 0, .slice none 0 0, .slice none 0 0, .slice none 0 0], .agg #[.int .i64 0, .slice none 0 0, .slice none 0 0, .slice none 0 0, .slice none 0 0]], []⟩ 8 (by kernel_rfl) (by kernel_rfl) (by kernel_rfl) (by kernel_rfl)) ?_
  intro W base args ds gs before hval0 hW _ _
  have hval : ∀ (j : Nat) t v, Try.f6.params[j]? = some t → args[j]? = some v → Value.okWide Try.prog W .any base t v := hval0
  have hW' := hW
  obtain ⟨p, q, hA0, hV, rfl, _, _⟩ := hW
  have hA : DataW.TrodAll enc Try.prog W 0 (fun _ => true) true Try.f6.params.toList args.toList ds p := hA0
  rw [Try.params6] at hA hval
  obtain ⟨v0, vs0, d0, ds0, p0, q0, hargs, rfl, rfl, h0, r0⟩ := trodAll_cons hA
  obtain ⟨v1, vs1, d1, ds1, p1, q1, rfl, rfl, rfl, h1, r1⟩ := trodAll_cons r0
  obtain ⟨rfl, rfl, rfl⟩ := trodAll_nil r1
  obtain rfl : args = #[v0, v1] := by cases args; simp_all
  obtain ⟨rfl, rfl⟩ := trodVars_none hV
  obtain ⟨b1, rs1, R1, rc1, T1, tn1, tc1, tx1, L1, ln1, lc1, lo1, lB1, ld1, lx1, C1, cn1, cc1, cB1, cd1, cx1, rfl, hs1, hr1⟩ := open_lib (hval 0 _ v0 rfl rfl) h0
  obtain ⟨b2, rs2, R2, rc2, T2, tn2, tc2, tx2, L2, ln2, lc2, lo2, lB2, ld2, lx2, C2, cn2, cc2, cB2, cd2, cx2, rfl, hs2, hr2⟩ := open_lib (hval 1 _ v1 rfl rfl) h1
  exact law_post hW' rfl rfl (by kernel_rfl) (by kernel_rfl) (walkSameLibs b1 rs1 R1 rc1 T1 tn1 tc1 tx1 L1 ln1 lc1 lo1 lB1 ld1 lx1 C1 cn1 cc1 cB1 cd1 cx1 b2 rs2 R2 rc2 T2 tn2 tc2 tx2 L2 ln2 lc2 lo2 lB2 ld2 lx2 C2 cn2 cc2 cB2 cd2 cx2 W hs1 hs2 hr1 hr2)

theorem fnExactSameLibs_holds : Rows.FnExactSameLibsSaid :=
  OpenClaim.holds_of_wide 6 Try.f6 rfl rfl rfl rfl rfl rfl rfl ⟨rfl, rfl, rfl, rfl, rfl⟩ rfl rfl rfl rfl rfl (by kernel_rfl) Try.func6 (by kernel_rfl)
    (of_decide_eq_true (by kernel_rfl)) (by unfold Func.isWrapper; first | (rw [if_pos (by decide +kernel)]; kernel_rfl) | (rw [if_neg (by decide +kernel)]; exact ⟨rfl, rfl⟩))
    (fun os started H enc _ => liftedSameLibs os started H enc)
#print axioms fnExactSameLibs_holds

end Go.Proofs.Ytachpoehejdpjaa
