/-
  FnExactWakeAll holds: whatever the queue and the lock that came in, the program's WakeAll answers as the model's. No conditions. The card ties the sentinels that the row lists to the program's text; the ties are given.
-/
import Derived.Test.YtfgllhomnmacfaaDoorOpen6
import Derived.Test.YtfgllhomnmacfaaDoorWakeAllW
import Derived.Test.YtfgllhomnmacfaaDoorTie
import Derived.Test.YtfgllhomnmacfaaDoorCards
namespace Go.Proofs.YtfgllhomnmacfaaDoor
open Go.ChangeShapes Go.WideShapes Go.ChangeAt Go.RowKit

set_option maxRecDepth 100000 in
theorem liftedFnExactWakeAll (os : Os) (started : os.Started) (H : Type) (enc : TypeId × Value → H) :
    ReturnsInHanded {} Tryd.checked os 11 .any (fun w args => (Rows.fnExactWakeAllSpec.pre enc Tryd.prog Tryd.f11 Rows.fnExactWakeAllRow.domain false w args ∧ laidMetH Tryd.prog Rows.fnExactWakeAllRow.laid w) ∧ sizedMet enc Tryd.prog Tryd.f11 (OpenSpec.ofChange Rows.fnExactWakeAllSpec) false w args) (Rows.fnExactWakeAllSpec.post enc Tryd.prog Tryd.f11 false true false false) := by
  refine returnsInHanded_of_change_and (C := Tryd.checked) (X := fun w _ => laidMetH Tryd.prog Rows.fnExactWakeAllRow.laid w) (fun _ _ _ hh h => h.of_heap hh) own started (by kernel_rfl) Tryd.func11
    (ChangeSpec.witness_shaped (enc := enc) (C := Tryd.checked) (os := os) (X := fun w _ => laidMetH Tryd.prog Rows.fnExactWakeAllRow.laid w) false (World.laidAll Tryd.prog os Rows.fnExactWakeAllRow.laid) #[.slice none 0 0, .agg #[.int .i64 0, .slice none 0 0]] 8 (World.laidAll_os _ _ _)
      (World.shaped_of_ZipB (by kernel_rfl) (by kernel_rfl)) (by kernel_rfl) (by kernel_rfl) (by kernel_rfl)
      (by rw [Go.MakeChecks.laidMetH_plain _ _ _ (by kernel_rfl)]; exact laidMet_laidAll _ (by kernel_rfl) (by kernel_rfl))) ?_
  intro W base args ds gs before hval0 hW _ _ hL _
  have hval : ∀ (j : Nat) t v, Tryd.f11.params[j]? = some t → args[j]? = some v → Value.okWide Tryd.prog W .any base t v := hval0
  have hL' := hL
  rw [Go.MakeChecks.laidMetH_plain _ _ _ (by kernel_rfl)] at hL'
  obtain ⟨E, hE, hU, hvar⟩ := errs_of_laid6 hL'
  have hvs : ∀ n, n ∈ Rows.fnExactWakeAllSpec.vars → VarE W n := fun n hn => hvar n (by
    have hall : (Rows.fnExactWakeAllSpec.vars.all fun x => names6.contains x) = true := by kernel_rfl
    exact List.contains_iff_mem.1 (List.all_eq_true.1 hall n hn))
  have hW' := hW
  obtain ⟨p, q, hA0, hV, rfl, _, _⟩ := hW
  have hA : DataW.TrodAll enc Tryd.prog W 0 (fun _ => true) true Tryd.f11.params.toList args.toList ds p := hA0
  rw [Tryd.params11] at hA hval
  obtain ⟨v0, vs0, d0, ds0, p0, q0, hargs, rfl, rfl, h0, r0⟩ := trodAll_cons hA
  obtain ⟨v1, vs1, d1, ds1, p1, q1, rfl, rfl, rfl, h1, r1⟩ := trodAll_cons r0
  obtain ⟨rfl, rfl, rfl⟩ := trodAll_nil r1
  obtain rfl : args = #[v0, v1] := by cases args; simp_all
  obtain ⟨Aq, nq, cq, xsq, rfl, hncq, hcmq, hnnq, hlq, hslq⟩ := open_queue (hval 0 _ v0 rfl rfl) h0
  obtain ⟨A, n, c, o, xs, rfl, hnc, hcm, hnn, hl, hsl⟩ := open_lock (hval 1 _ v1 rfl rfl) h1
  refine law_postV hW' hvs (fun gs' hl => ?_) rfl (by kernel_rfl) (walkWakeAll E Aq nq cq xsq A n c o xs W hE hU (by have : maxLen = 9223372036854775807 := rfl; omega) hl hsl hlq hslq)
  obtain ⟨a, b, c, d, e, f, rfl⟩ := len6 (show gs'.length = 6 from hl)
  rfl

theorem fnExactWakeAll_row : Rows.FnExactWakeAllSaid :=
  OpenClaim.holds_of_wide 11 Tryd.f11 rfl rfl rfl rfl rfl rfl rfl ⟨rfl, rfl, rfl, rfl, rfl⟩ rfl rfl rfl rfl rfl (by kernel_rfl) Tryd.func11 (by kernel_rfl)
    (of_decide_eq_true (by kernel_rfl)) (by unfold Func.isWrapper; first | (rw [if_pos (by decide +kernel)]; kernel_rfl) | (rw [if_neg (by decide +kernel)]; exact ⟨rfl, rfl⟩))
    (fun os started H enc _ => liftedFnExactWakeAll os started H enc)

theorem fnExactWakeAll_holds : Rows.FnExactWakeAllCardSaid :=
  Claim7.holds_tied_plain_at .later [] [.sentinel, .sentinel, .sentinel, .sentinel, .sentinel, .sentinel] true Rows.fnExactWakeAllCard.stood.harness true
    fnExactWakeAll_row (fun _ h => by cases h) (by kernel_rfl) (fun _ h => by cases h) fnExactWakeAll_row_tie rfl ⟨rfl, rfl⟩ (by kernel_rfl) rfl
    (fun f fn hf hfn => by
      obtain rfl : f = 11 := Option.some.inj ((show Tryd.prog.funcNamed "loop.example/g00789/laws.FnExactWakeAll" = some 11 by kernel_rfl).symm.trans hf) |>.symm
      obtain rfl : fn = Tryd.f11 := (Option.some.inj (Tryd.func11.symm.trans hfn)).symm
      exact ⟨by kernel_rfl, fun j t ht => by
        rw [Tryd.params11] at ht
        have hm : t ∈ [24, 44] := by simpa using Array.mem_of_getElem? ht
        have hall : ([24, 44].all fun u => !Tryd.prog.wantsStandIn u) = true := by kernel_rfl
        exact (show Tryd.prog.wantsStandIn t = false by simpa using List.all_eq_true.1 hall t hm)⟩)
    (by kernel_rfl)
#print axioms fnExactWakeAll_holds

end Go.Proofs.YtfgllhomnmacfaaDoor
