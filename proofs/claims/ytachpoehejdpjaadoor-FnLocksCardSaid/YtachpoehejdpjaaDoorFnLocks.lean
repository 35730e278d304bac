/-
  FnLocks returns true for every code and leaves it as it was. No conditions. The card ties the sentinels that the row lists to the program's text; the ties are given.
-/
import Derived.Test.YtachpoehejdpjaaDoorLaw6
import Derived.Test.YtachpoehejdpjaaDoorU8s
import Derived.Test.YtachpoehejdpjaaDoorLocksAll
import Derived.Test.YtachpoehejdpjaaDoorTie
import Derived.Test.YtachpoehejdpjaaDoorCards
namespace Go.Proofs.YtachpoehejdpjaaDoor
open Go.ChangeShapes Go.WideShapes Go.ChangeAt Go.RowKit

set_option maxRecDepth 100000 in
theorem liftedFnLocks (os : Os) (started : os.Started) (H : Type) (enc : TypeId × Value → H) :
    ReturnsInHanded {} Tryd.checked os 3 .any (fun w args => (Rows.fnLocksSpec.pre enc Tryd.prog Tryd.f3 Rows.fnLocksRow.domain false w args ∧ laidMetH Tryd.prog Rows.fnLocksRow.laid w) ∧ sizedMet enc Tryd.prog Tryd.f3 (OpenSpec.ofChange Rows.fnLocksSpec) false w args) (Rows.fnLocksSpec.post enc Tryd.prog Tryd.f3 false true false false) := by
  refine returnsInHanded_of_change_and (C := Tryd.checked) (X := fun w _ => laidMetH Tryd.prog Rows.fnLocksRow.laid w) (fun _ _ _ hh h => h.of_heap hh) own started (by kernel_rfl) Tryd.func3
    (ChangeSpec.witness_shaped (enc := enc) (C := Tryd.checked) (os := os) (X := fun w _ => laidMetH Tryd.prog Rows.fnLocksRow.laid w) false (World.laidAll Tryd.prog os Rows.fnLocksRow.laid) #[.slice none 0 0] 8 (World.laidAll_os _ _ _)
      (World.shaped_of_ZipB (by kernel_rfl) (by kernel_rfl)) (by kernel_rfl) (by kernel_rfl) (by kernel_rfl)
      (by rw [Go.MakeChecks.laidMetH_plain _ _ _ (by kernel_rfl)]; exact laidMet_laidAll _ (by kernel_rfl) (by kernel_rfl))) ?_
  intro W base args ds gs before hval0 hW _ _ hL _
  have hval : ∀ (j : Nat) t v, Tryd.f3.params[j]? = some t → args[j]? = some v → Value.okWide Tryd.prog W .any base t v := hval0
  have hL' := hL
  rw [Go.MakeChecks.laidMetH_plain _ _ _ (by kernel_rfl)] at hL'
  obtain ⟨E, hE, hU, hvar⟩ := errs_of_laid6 hL'
  have hvs : ∀ n, n ∈ Rows.fnLocksSpec.vars → VarE W n := fun n hn => hvar n (by
    have hall : (Rows.fnLocksSpec.vars.all fun x => names6.contains x) = true := by kernel_rfl
    exact List.contains_iff_mem.1 (List.all_eq_true.1 hall n hn))
  have hW' := hW
  obtain ⟨p, q, hA0, hV, rfl, _, _⟩ := hW
  have hA : DataW.TrodAll enc Tryd.prog W 0 (fun _ => true) true Tryd.f3.params.toList args.toList ds p := hA0
  rw [Tryd.params3] at hA hval
  obtain ⟨v0, vs0, d0, ds0, p0, q0, hargs, rfl, rfl, h0, r0⟩ := trodAll_cons hA
  obtain ⟨rfl, rfl, rfl⟩ := trodAll_nil r0
  obtain rfl : args = #[v0] := by cases args; simp_all
  obtain ⟨A, n, c, xs, rfl, _, hl, hsl, hby⟩ := open_u8s (hval 0 _ v0 rfl rfl) h0
  refine law_postV hW' hvs (fun gs' hl => ?_) rfl (by kernel_rfl) (walkLocksAll E A n c (gi xs) W hE hU hsl hby)
  obtain ⟨a, b, c, d, e, f, rfl⟩ := len6 (show gs'.length = 6 from hl)
  rfl

theorem fnLocks_row : Rows.FnLocksSaid :=
  OpenClaim.holds_of_wide 3 Tryd.f3 rfl rfl rfl rfl rfl rfl rfl ⟨rfl, rfl, rfl, rfl, rfl⟩ rfl rfl rfl rfl rfl (by kernel_rfl) Tryd.func3 (by kernel_rfl)
    (of_decide_eq_true (by kernel_rfl)) (by unfold Func.isWrapper; first | (rw [if_pos (by decide +kernel)]; kernel_rfl) | (rw [if_neg (by decide +kernel)]; exact ⟨rfl, rfl⟩))
    (fun os started H enc _ => liftedFnLocks os started H enc)

theorem fnLocks_holds : Rows.FnLocksCardSaid :=
  Claim7.holds_tied_plain_at .later [] [.sentinel, .sentinel, .sentinel, .sentinel, .sentinel, .sentinel] true Rows.fnLocksCard.stood.harness true
    fnLocks_row (fun _ h => by cases h) (by kernel_rfl) (fun _ h => by cases h) fnLocks_row_tie rfl ⟨rfl, rfl⟩ (by kernel_rfl) rfl
    (fun f fn hf hfn => by
      obtain rfl : f = 3 := Option.some.inj ((show Tryd.prog.funcNamed "loop.example/g00789/laws.FnLocks" = some 3 by kernel_rfl).symm.trans hf) |>.symm
      obtain rfl : fn = Tryd.f3 := (Option.some.inj (Tryd.func3.symm.trans hfn)).symm
      exact ⟨by kernel_rfl, fun j t ht => by
        rw [Tryd.params3] at ht
        have hm : t ∈ [22] := by simpa using Array.mem_of_getElem? ht
        have hall : ([22].all fun u => !Tryd.prog.wantsStandIn u) = true := by kernel_rfl
        exact (show Tryd.prog.wantsStandIn t = false by simpa using List.all_eq_true.1 hall t hm)⟩)
    (by kernel_rfl)
#print axioms fnLocks_holds

end Go.Proofs.YtachpoehejdpjaaDoor
