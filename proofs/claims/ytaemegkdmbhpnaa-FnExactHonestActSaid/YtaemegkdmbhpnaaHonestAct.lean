/-
  FnExactHonestAct holds: whatever the kernel and the library that came in, the program's HonestAct answers as the model's. No conditions.
-/
import Derived.Test.YtaemegkdmbhpnaaLaw
import Derived.Test.YtaemegkdmbhpnaaHonestActW
import Derived.Test.YtaemegkdmbhpnaaOpenL7
import Derived.Test.YtaemegkdmbhpnaaOpen3
namespace Go.Proofs.Ytaemegkdmbhpnaa
open Go.ChangeShapes Go.WideShapes Go.ChangeAt Go.RowKit

set_option maxRecDepth 100000 in
theorem liftedHonestAct (os : Os) (started : os.Started) (H : Type) (enc : TypeId × Value → H) :
    ReturnsInHanded {} Try.checked os 4 .any (Rows.fnExactHonestActSpec.pre6 enc Try.prog Try.f4 Rows.fnExactHonestActRow.domain false) (Rows.fnExactHonestActSpec.post enc Try.prog Try.f4 false true false false) := by
  refine returnsInHanded_of_change (C := Try.checked) own started (by kernel_rfl) Try.func4
    (ChangeSpec.witness6 (enc := enc) (C := Try.checked) false ⟨#[], #[.agg #[.slice none 0 0, .slice none 0 0, .slice none 0 0, .int .i64 0, .int .i64 0], .agg #[.int .i64 0, .slice none 0 0, .slice none 0 0, .slice none 0 0, .slice none 0 0]], []⟩ 8 (by kernel_rfl) (by kernel_rfl) (by kernel_rfl) (by kernel_rfl)) ?_
  intro W base args ds gs before hval0 hW _ _
  have hval : ∀ (j : Nat) t v, Try.f4.params[j]? = some t → args[j]? = some v → Value.okWide Try.prog W .any base t v := hval0
  have hW' := hW
  obtain ⟨p, q, hA0, hV, rfl, _, _⟩ := hW
  have hA : DataW.TrodAll enc Try.prog W 0 (fun _ => true) true Try.f4.params.toList args.toList ds p := hA0
  rw [Try.params4] at hA hval
  obtain ⟨v0, vs0, d0, ds0, p0, q0, hargs, rfl, rfl, h0, r0⟩ := trodAll_cons hA
  obtain ⟨v1, vs1, d1, ds1, p1, q1, rfl, rfl, rfl, h1, r1⟩ := trodAll_cons r0
  obtain ⟨rfl, rfl, rfl⟩ := trodAll_nil r1
  obtain rfl : args = #[v0, v1] := by cases args; simp_all
  obtain ⟨rfl, rfl⟩ := trodVars_none hV
  obtain ⟨A1, n1, c1, A2, n2, c2, A3, n3, c3, K, rfl, hk, ha, m1, m2, m3⟩ := open_kernel (hval 0 _ v0 rfl rfl) h0
  obtain ⟨b1, rs1, R1, rc1, T1, tn1, tc1, tx1, L1, ln1, lc1, lo1, lB1, ld1, lx1, C1, cn1, cc1, cB1, cd1, cx1, rfl, hs1, hr1⟩ := open_lib (hval 1 _ v1 rfl rfl) h1
  exact law_post hW' rfl rfl (by kernel_rfl) (by kernel_rfl) (walkHonestAct A1 n1 c1 A2 n2 c2 A3 n3 c3 K b1 rs1 R1 rc1 T1 tn1 tc1 tx1 L1 ln1 lc1 lo1 lB1 ld1 lx1 C1 cn1 cc1 cB1 cd1 cx1 W hk m1 m2 m3 hs1 hr1)

theorem fnExactHonestAct_holds : Rows.FnExactHonestActSaid :=
  OpenClaim.holds_of_wide 4 Try.f4 rfl rfl rfl rfl rfl rfl rfl ⟨rfl, rfl, rfl, rfl, rfl⟩ rfl rfl rfl rfl rfl (by kernel_rfl) Try.func4 (by kernel_rfl)
    (of_decide_eq_true (by kernel_rfl)) (by unfold Func.isWrapper; first | (rw [if_pos (by decide +kernel)]; kernel_rfl) | (rw [if_neg (by decide +kernel)]; exact ⟨rfl, rfl⟩))
    (fun os started H enc _ => liftedHonestAct os started H enc)
#print axioms fnExactHonestAct_holds

end Go.Proofs.Ytaemegkdmbhpnaa
