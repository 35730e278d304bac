/-
  FnExactMutedEvents holds: whatever the number of slots, the events, the environment and the kind that came in, the program's MutedEvents answers as the model's. No conditions.
-/
import Derived.Test.YtkhphkfbjbhgaaaGreatMutedEventsW
import Derived.Test.YtkhphkfbjbhgaaaGreatOpenE3
namespace Go.Proofs.YtkhphkfbjbhgaaaGreat
open Go.ChangeShapes Go.WideShapes Go.ChangeAt Go.RowKit

set_option maxHeartbeats 1000000 in
set_option maxRecDepth 100000 in
theorem liftedMutedEvents (os : Os) (started : os.Started) (H : Type) (enc : TypeId × Value → H) :
    ReturnsInHanded {} Tryz.checked os 5 .any (Rows.fnExactMutedEventsSpec.pre6 enc Tryz.prog Tryz.f5 Rows.fnExactMutedEventsRow.domain false) (Rows.fnExactMutedEventsSpec.post enc Tryz.prog Tryz.f5 false true false false) := by
  refine returnsInHanded_of_change (C := Tryz.checked) own started (by kernel_rfl) Tryz.func5
    (ChangeSpec.witness6 (enc := enc) (C := Tryz.checked) false ⟨#[], #[.int .i64 0, .slice none 0 0, .int .i64 0, .int .i64 0], []⟩ 8 (by kernel_rfl) (by kernel_rfl) (by kernel_rfl) (by kernel_rfl)) ?_
  intro W base args ds gs before hval0 hW _ _
  have hval : ∀ (j : Nat) t v, Tryz.f5.params[j]? = some t → args[j]? = some v → Value.okWide Tryz.prog W .any base t v := hval0
  have hW' := hW
  obtain ⟨p, q, hA0, hV, rfl, _, _⟩ := hW
  have hA : DataW.TrodAll enc Tryz.prog W 0 (fun _ => true) true Tryz.f5.params.toList args.toList ds p := hA0
  rw [Tryz.params5] at hA hval
  obtain ⟨v0, vs0, d0, ds0, p0, q0, hargs, rfl, rfl, h0, r0⟩ := trodAll_cons hA
  obtain ⟨v1, vs1, d1, ds1, p1, q1, rfl, rfl, rfl, h1, r1⟩ := trodAll_cons r0
  obtain ⟨v2, vs2, d2, ds2, p2, q2, rfl, rfl, rfl, h2, r2⟩ := trodAll_cons r1
  obtain ⟨v3, vs3, d3, ds3, p3, q3, rfl, rfl, rfl, h3, r3⟩ := trodAll_cons r2
  obtain ⟨rfl, rfl, rfl⟩ := trodAll_nil r3
  obtain rfl : args = #[v0, v1, v2, v3] := by cases args; simp_all
  obtain ⟨rfl, rfl⟩ := trodVars_none hV
  obtain ⟨x0, rfl, _, _⟩ := open_i64 (hval 0 _ v0 rfl rfl) h0
  obtain ⟨A, n, c, x, rfl, hs1, hr1⟩ := open_events (hval 1 _ v1 rfl rfl) h1
  obtain ⟨x2, rfl, _, _⟩ := open_i64 (hval 2 _ v2 rfl rfl) h2
  obtain ⟨x3, rfl, _, _⟩ := open_i64 (hval 3 _ v3 rfl rfl) h3
  exact law_post hW' rfl rfl (by kernel_rfl) (by kernel_rfl) (walkMutedEvents x0 x2 x3 A n c x W hs1 hr1)

set_option maxHeartbeats 1000000 in
theorem fnExactMutedEvents_holds : Rows.FnExactMutedEventsSaid :=
  OpenClaim.holds_of_wide 5 Tryz.f5 rfl rfl rfl rfl rfl rfl rfl ⟨rfl, rfl, rfl, rfl, rfl⟩ rfl rfl rfl rfl rfl (by kernel_rfl) Tryz.func5 (by kernel_rfl)
    (of_decide_eq_true (by kernel_rfl)) (by unfold Func.isWrapper; first | (rw [if_pos (by decide +kernel)]; kernel_rfl) | (rw [if_neg (by decide +kernel)]; exact ⟨rfl, rfl⟩))
    (fun os started H enc _ => liftedMutedEvents os started H enc)
#print axioms fnExactMutedEvents_holds

end Go.Proofs.YtkhphkfbjbhgaaaGreat
