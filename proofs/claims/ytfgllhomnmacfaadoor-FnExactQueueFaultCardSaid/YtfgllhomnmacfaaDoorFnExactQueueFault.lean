/-
  FnExactQueueFault holds: whatever the queue that came in, the program's QueueFault answers as the model's. No conditions. The card ties the sentinels that the row lists to the program's text; the ties are given.
-/
import Derived.Test.YtfgllhomnmacfaaDoorOpen6
import Derived.Test.YtfgllhomnmacfaaDoorQueueFaultW
import Derived.Test.YtfgllhomnmacfaaDoorTie
import Derived.Test.YtfgllhomnmacfaaDoorCards
namespace Go.Proofs.YtfgllhomnmacfaaDoor
open Go.ChangeShapes Go.WideShapes Go.ChangeAt Go.RowKit

set_option maxRecDepth 100000 in
theorem liftedFnExactQueueFault (os : Os) (started : os.Started) (H : Type) (enc : TypeId × Value → H) :
    ReturnsInHanded {} Tryd.checked os 6 .any (fun w args => (Rows.fnExactQueueFaultSpec.pre enc Tryd.prog Tryd.f6 Rows.fnExactQueueFaultRow.domain false w args ∧ laidMetH Tryd.prog Rows.fnExactQueueFaultRow.laid w) ∧ sizedMet enc Tryd.prog Tryd.f6 (OpenSpec.ofChange Rows.fnExactQueueFaultSpec) false w args) (Rows.fnExactQueueFaultSpec.post enc Tryd.prog Tryd.f6 false true false false) := by
  refine returnsInHanded_of_change_and (C := Tryd.checked) (X := fun w _ => laidMetH Tryd.prog Rows.fnExactQueueFaultRow.laid w) (fun _ _ _ hh h => h.of_heap hh) own started (by kernel_rfl) Tryd.func6
    (ChangeSpec.witness_shaped (enc := enc) (C := Tryd.checked) (os := os) (X := fun w _ => laidMetH Tryd.prog Rows.fnExactQueueFaultRow.laid w) false (World.laidAll Tryd.prog os Rows.fnExactQueueFaultRow.laid) #[.slice none 0 0] 8 (World.laidAll_os _ _ _)
      (World.shaped_of_ZipB (by kernel_rfl) (by kernel_rfl)) (by kernel_rfl) (by kernel_rfl) (by kernel_rfl)
      (by rw [Go.MakeChecks.laidMetH_plain _ _ _ (by kernel_rfl)]; exact laidMet_laidAll _ (by kernel_rfl) (by kernel_rfl))) ?_
  intro W base args ds gs before hval0 hW _ _ hL _
  have hval : ∀ (j : Nat) t v, Tryd.f6.params[j]? = some t → args[j]? = some v → Value.okWide Tryd.prog W .any base t v := hval0
  have hL' := hL
  rw [Go.MakeChecks.laidMetH_plain _ _ _ (by kernel_rfl)] at hL'
  obtain ⟨E, hE, hvar⟩ := errs_of_laid5 hL'
  have hvs : ∀ n, n ∈ Rows.fnExactQueueFaultSpec.vars → VarE W n := fun n hn => hvar n (by
    have hall : (Rows.fnExactQueueFaultSpec.vars.all fun x => names5.contains x) = true := by kernel_rfl
    exact List.contains_iff_mem.1 (List.all_eq_true.1 hall n hn))
  have hW' := hW
  obtain ⟨p, q, hA0, hV, rfl, _, _⟩ := hW
  have hA : DataW.TrodAll enc Tryd.prog W 0 (fun _ => true) true Tryd.f6.params.toList args.toList ds p := hA0
  rw [Tryd.params6] at hA hval
  obtain ⟨v0, vs0, d0, ds0, p0, q0, hargs, rfl, rfl, h0, r0⟩ := trodAll_cons hA
  obtain ⟨rfl, rfl, rfl⟩ := trodAll_nil r0
  obtain rfl : args = #[v0] := by cases args; simp_all
  obtain ⟨A, n, c, xs, rfl, hnc, hcm, hnn, hl, hsl⟩ := open_queue (hval 0 _ v0 rfl rfl) h0
  refine law_postV hW' hvs (fun gs' hl => ?_) rfl (by kernel_rfl) (walkQueueFault E A n c xs W hE hl hsl)
  obtain ⟨a, b, c, d, e, rfl⟩ := len5 (show gs'.length = 5 from hl)
  rfl

theorem fnExactQueueFault_row : Rows.FnExactQueueFaultSaid :=
  OpenClaim.holds_of_wide 6 Tryd.f6 rfl rfl rfl rfl rfl rfl rfl ⟨rfl, rfl, rfl, rfl, rfl⟩ rfl rfl rfl rfl rfl (by kernel_rfl) Tryd.func6 (by kernel_rfl)
    (of_decide_eq_true (by kernel_rfl)) (by unfold Func.isWrapper; first | (rw [if_pos (by decide +kernel)]; kernel_rfl) | (rw [if_neg (by decide +kernel)]; exact ⟨rfl, rfl⟩))
    (fun os started H enc _ => liftedFnExactQueueFault os started H enc)

theorem fnExactQueueFault_holds : Rows.FnExactQueueFaultCardSaid :=
  Claim7.holds_tied_plain_at .later [] [.sentinel, .sentinel, .sentinel, .sentinel, .sentinel] true Rows.fnExactQueueFaultCard.stood.harness true
    fnExactQueueFault_row (fun _ h => by cases h) (by kernel_rfl) (fun _ h => by cases h) fnExactQueueFault_row_tie rfl ⟨rfl, rfl⟩ (by kernel_rfl) rfl
    (fun f fn hf hfn => by
      obtain rfl : f = 6 := Option.some.inj ((show Tryd.prog.funcNamed "loop.example/g00789/laws.FnExactQueueFault" = some 6 by kernel_rfl).symm.trans hf) |>.symm
      obtain rfl : fn = Tryd.f6 := (Option.some.inj (Tryd.func6.symm.trans hfn)).symm
      exact ⟨by kernel_rfl, fun j t ht => by
        rw [Tryd.params6] at ht
        have hm : t ∈ [24] := by simpa using Array.mem_of_getElem? ht
        have hall : ([24].all fun u => !Tryd.prog.wantsStandIn u) = true := by kernel_rfl
        exact (show Tryd.prog.wantsStandIn t = false by simpa using List.all_eq_true.1 hall t hm)⟩)
    (by kernel_rfl)
#print axioms fnExactQueueFault_holds

end Go.Proofs.YtfgllhomnmacfaaDoor
