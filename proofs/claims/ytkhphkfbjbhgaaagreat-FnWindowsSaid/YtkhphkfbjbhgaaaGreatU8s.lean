/-
  How a code that came in is opened: a list of numbers from 0 to 255. No conditions.
  Ahead of it:
  The frame of a law's statement, once for all laws of this seat: if the call returns true and nothing that was there turns, then the row's post holds; and how arguments of the kinds that the laws take are opened. No function of the program is named here.
-/
import Derived.Test.YtkhphkfbjbhgaaaGreatRows
import Derived.ChangeOld
import Derived.Test.YtkhphkfbjbhgaaaGreatBase
namespace Go.Proofs.YtkhphkfbjbhgaaaGreat
open Go.ChangeShapes Go.WideShapes Go.ChangeAt Go.RowKit
set_option maxRecDepth 100000

set_option maxHeartbeats 1000000 in
theorem own : ownKnob Tryz.prog.godebug = none := by kernel_rfl
set_option maxHeartbeats 1000000 in
theorem laidOut : laidOutB Tryz.prog = true := by kernel_rfl

set_option maxHeartbeats 1000000 in
theorem trodAll_below {H : Type} {enc : TypeId × Value → H} {P : Program} (hl : laidOutB P = true) {W W' : World} (hb : Below W.heap.size W W') (ts : List TypeId) :
    ∀ (vs : List Value) (ds : List (DataW H)) (ps : List MemPlace), ts.all (fun t => P.readableRec t && decide (t < P.types.size)) = true →
      DataW.TrodAll enc P W 0 (fun _ => true) true ts vs ds ps → (∀ x ∈ ps, x.block < W.heap.size) →
      DataW.TrodAll enc P W' 0 (fun b => decide (b < W.heap.size)) true ts vs ds ps := by
  induction ts with
  | nil =>
    intro vs ds ps _ h _
    obtain ⟨rfl, rfl, rfl⟩ := trodAll_nil h
    exact trodAll_mk0
  | cons t ts ih =>
    intro vs ds ps ht h hlt
    obtain ⟨v, vs', d, ds', p, q, rfl, rfl, rfl, h0, r0⟩ := trodAll_cons h
    rw [List.all_cons, Bool.and_eq_true, Bool.and_eq_true] at ht
    exact trodAll_cons_mk (Below.trod hl ht.1.1 (of_decide_eq_true ht.1.2) h0 hb (fun x hx => hlt x (List.mem_append_left _ hx)))
      (ih vs' ds' q ht.2 r0 (fun x hx => hlt x (List.mem_append_right _ hx)))

set_option maxHeartbeats 1000000 in
/-- the call returned true and nothing that was there has turned: the law's post -/
theorem law_post {H : Type} {enc : TypeId × Value → H} {fn : Func} {S : ChangeSpec} {W : World} {args : Array Value} {ds gs : List (DataW H)} {before : List MemPlace} {K : FuncId}
    (hW : DataW.Whole enc Tryz.prog fn.params.toList S.vars false W args.toList ds gs before) (hv : S.vars = [])
    (hfn : S.fn H (ds ++ gs) = { results := [.lit (.bool true)], args := ds }) (hres : fn.resultTypes = #[4])
    (hts : fn.params.toList.all (fun t => Tryz.prog.readableRec t && decide (t < Tryz.prog.types.size)) = true)
    (walk : Calls Tryz.prog K args W fun e w' => e = .returned (.bool true) ∧ Below W.heap.size W w') :
    Calls Tryz.prog K args W fun e W' => ∃ v, e = .returned v ∧ S.post enc Tryz.prog fn false true false false W args v W' := by
  refine walk.mono fun e W' ⟨he, bel⟩ => ?_
  subst he
  have hW' := hW
  obtain ⟨p, q, hA, hV, rfl, hfz, hnd⟩ := hW
  have hlt : ∀ x ∈ p ++ q, x.block < W.heap.size := fun x hx => hW'.lt x hx
  rw [hv] at hV
  obtain ⟨rfl, rfl⟩ := trodVars_none hV
  refine ⟨_, rfl, ds, [], p ++ [], [], p, [], hW', ?_, ?_, ?_, bel.frame _, fun h => by cases h⟩
  · rw [hfn, hres]
    exact trodAll_mk1 (shut_bool Tryz.underlying4 _)
  · rw [hfn]
    exact trodAll_below laidOut bel _ _ _ _ hts hA (fun x hx => hlt x (List.mem_append_left _ hx))
  · rw [hfn, hv]
    rfl

end Go.Proofs.YtkhphkfbjbhgaaaGreat

namespace Go.Proofs.YtkhphkfbjbhgaaaGreat
open Go.ChangeShapes Go.WideShapes Go.ChangeAt Go.RowKit
set_option maxRecDepth 100000

set_option maxHeartbeats 1000000 in
/-- a slice of bytes that came in: it reads as a list of numbers from 0 to 255 -/
theorem open_u8s {H : Type} {enc : TypeId × Value → H} {W : World} {r : Reach} {b0 : Nat} {v : Value} {d : DataW H} {ps : List MemPlace}
    (hval : Value.okWide Tryz.prog W r b0 57 v) (h : DataW.Trod enc Tryz.prog W 0 (fun _ => true) true 57 v d ps) :
    ∃ A n c xs, v = .slice A n c ∧ n ≤ c ∧ xs.length = n ∧ Sl W 0 W.heap.size A n (fun k => .int .u8 (gi xs k)) ∧ ∀ k, 0 ≤ gi xs k ∧ gi xs k ≤ 255 := by
  obtain ⟨a0, len0, cap0, rfl⟩ := okWide_slice Tryz.underlying57 hval
  obtain ⟨fuel, hf⟩ := h
  rcases open_ints Tryz.underlying57 Tryz.underlying5 (by kernel_rfl) hf with ⟨hcs, _⟩ | ⟨x, l, c, zs, hcs, _, hl, hm, hz, _, hcell, hwz⟩
  · simp [Value.cells] at hcs
    obtain ⟨rfl, rfl, rfl⟩ := hcs
    exact ⟨none, 0, 0, [], rfl, Nat.le_refl _, rfl, Sl.nil, fun k => by simp [gi]⟩
  · simp [Value.cells] at hcs
    obtain ⟨rfl, rfl, rfl⟩ := hcs
    simp only [if_true] at hz
    have hg : ∀ k, k < len0 → gi (zs.take len0) k = gi zs k := fun k hk => by simp [gi, hk]
    refine ⟨some x, len0, cap0, zs.take len0, rfl, hl, by simp; omega, ?_, fun k => ?_⟩
    · intro k hk
      obtain ⟨b, off, spot⟩ := x
      have hspot : spot = none := by simpa [Addr.add] using World.cell?_spot (hcell 0 (by omega))
      subst hspot
      have hc := hcell k (by omega)
      rw [add_plain] at hc
      have hbl := World.block_lt_of_cell? _ _ hc
      refine ⟨b, off, rfl, Nat.zero_le _, hbl, ?_⟩
      rw [hc]
      show _ = some (Value.int .u8 (gi (zs.take len0) k))
      rw [hg k hk]
      rfl
    · by_cases hk : k < len0
      · rw [hg k hk, gi_lt zs k (by omega)]
        have := hwz _ (List.getElem_mem (show k < zs.length by omega))
        have h1 : IntKind.u8.min = 0 := rfl
        have h2 : IntKind.u8.max = 255 := rfl
        simp only [Lit.wf, Bool.and_eq_true, decide_eq_true_eq, h1, h2] at this
        exact this
      · have : gi (zs.take len0) k = 0 := by unfold gi; rw [List.getD_eq_getElem?_getD, List.getElem?_eq_none (by simp; omega)]; rfl
        rw [this]
        decide

end Go.Proofs.YtkhphkfbjbhgaaaGreat
