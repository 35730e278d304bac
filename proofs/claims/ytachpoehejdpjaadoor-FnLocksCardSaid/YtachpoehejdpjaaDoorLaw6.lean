/-
  The frame of a law's statement where variables are named: if the call returns true and nothing that was there turns, then the row's post holds. No function of the program is named here.
-/
import Derived.Test.YtachpoehejdpjaaDoorLaw
import Derived.Test.YtachpoehejdpjaaDoorLaid6
import Derived.MakeChecks
import Derived.LaidHandle
import Derived.Lay
import Derived.LaidLaws
import Derived.SevenTiedAt
namespace Go.Proofs.YtachpoehejdpjaaDoor
open Go.ChangeShapes Go.WideShapes Go.ChangeAt Go.RowKit
set_option maxRecDepth 100000

theorem var?_below {P : Program} {W W' : World} (hb : Below W.heap.size W W') {n : String} {cs : Array Value} (h : W.var? P n = some cs) : W'.var? P n = some cs := by
  unfold World.var? at h ⊢
  cases hg : P.globalNamed n with
  | none => simp [hg] at h
  | some g =>
    simp only [hg, Option.bind_some] at h ⊢
    have hlt : g < W.heap.size := by
      rcases Nat.lt_or_ge g W.heap.size with h' | h'
      · exact h'
      · simp [Array.getElem?_eq_none h'] at h
    rw [hb.block g hlt]
    exact h

/-- named variables that hold errors read the same behind the call -/
theorem vars_toks {H : Type} {enc : TypeId × Value → H} {W : World} : ∀ (names : List String), (∀ n, n ∈ names → VarE W n) →
    ∃ gs q, gs.length = names.length ∧ ∀ W' sp, Below W.heap.size W W' → DataW.TrodVars enc Tryd.prog W' sp names gs q
  | [], _ => ⟨[], [], rfl, fun _ _ _ => rfl⟩
  | n :: r, h => by
    obtain ⟨g, a, hg, ht, hv⟩ := h n (.head _)
    obtain ⟨gs, q, hl, hr⟩ := vars_toks r (fun m hm => h m (.tail _ hm))
    exact ⟨tok enc (.iface 92 (.pointer (some a))) :: gs, .cell g 0 :: q, by simp [hl], fun W' sp hb =>
      ⟨g, 49, #[.iface 92 (.pointer (some a))], 1, [], q, hg, ht, var?_below hb hv, trod_held Tryd.underlying49 (by first | exact ⟨_, _, rfl⟩ | exact .inr ⟨_, _, rfl⟩ | simp [IsIface]) 0, hr W' sp hb, rfl⟩⟩

theorem law_postV {H : Type} {enc : TypeId × Value → H} {fn : Func} {S : ChangeSpec} {W : World} {args : Array Value} {ds gs : List (DataW H)} {before : List MemPlace} {K : FuncId}
    (hW : DataW.Whole enc Tryd.prog fn.params.toList S.vars false W args.toList ds gs before) (hv : ∀ n, n ∈ S.vars → VarE W n)
    (hfn : ∀ gs' : List (DataW H), gs'.length = S.vars.length → S.fn H (ds ++ gs') = { results := [.lit (.bool true)], args := ds, vars := gs' }) (hres : fn.resultTypes = #[4])
    (hts : fn.params.toList.all (fun t => Tryd.prog.readableRec t && decide (t < Tryd.prog.types.size)) = true)
    (walk : Calls Tryd.prog K args W fun e w' => e = .returned (.bool true) ∧ Below W.heap.size W w') :
    Calls Tryd.prog K args W fun e W' => ∃ v, e = .returned v ∧ S.post enc Tryd.prog fn false true false false W args v W' := by
  refine walk.mono fun e W' ⟨he, bel⟩ => ?_
  subst he
  have hW' := hW
  obtain ⟨p, q, hA, hV, rfl, hfz, hnd⟩ := hW
  have hlt : ∀ x ∈ p ++ q, x.block < W.heap.size := fun x hx => hW'.lt x hx
  obtain ⟨gs1, q1, hl1, hr1⟩ := vars_toks (enc := enc) S.vars hv
  obtain ⟨rfl, rfl⟩ := hV.unique (hr1 W _ (Below.refl _ _))
  refine ⟨_, rfl, ds, gs, p ++ q, [], p, q, hW', ?_, ?_, ?_, bel.frame _, fun h => by cases h⟩
  · rw [hfn _ hl1, hres]
    exact trodAll_mk1 (shut_bool Tryd.underlying4 _)
  · rw [hfn _ hl1]
    exact trodAll_below laidOut bel _ _ _ _ hts hA (fun x hx => hlt x (List.mem_append_left _ hx))
  · rw [hfn _ hl1]
    exact hr1 W' _ bel
theorem len5 {α : Type} {l : List α} (h : l.length = 5) : ∃ a b c d e, l = [a, b, c, d, e] := by
  match l, h with
  | [a, b, c, d, e], _ => exact ⟨a, b, c, d, e, rfl⟩
theorem len6 {α : Type} {l : List α} (h : l.length = 6) : ∃ a b c d e f, l = [a, b, c, d, e, f] := by
  match l, h with
  | [a, b, c, d, e, f], _ => exact ⟨a, b, c, d, e, f, rfl⟩

end Go.Proofs.YtachpoehejdpjaaDoor
