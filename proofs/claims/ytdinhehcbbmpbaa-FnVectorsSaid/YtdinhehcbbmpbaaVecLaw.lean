/-
  For every code, FnVectors returns true and leaves the code as it was. No conditions.
-/
import Derived.Test.YtdinhehcbbmpbaaVectors
import Derived.Test.YtdinhehcbbmpbaaLaw
namespace Go.Proofs.Ytdinhehcbbmpbaa
open Go.ChangeShapes Go.WideShapes Go.ChangeAt Go.RowKit

/-- a slice of bytes that came in: it reads as a list of numbers from 0 to 255 -/
theorem open_u8s {H : Type} {enc : TypeId × Value → H} {W : World} {r : Reach} {b0 : Nat} {v : Value} {d : DataW H} {ps : List MemPlace}
    (hval : Value.okWide Try.prog W r b0 22 v) (h : DataW.Trod enc Try.prog W 0 (fun _ => true) true 22 v d ps) :
    ∃ A n c xs, v = .slice A n c ∧ n ≤ c ∧ xs.length = n ∧ Sl W 0 W.heap.size A n (fun k => .int .u8 (gi xs k)) ∧ ∀ k, 0 ≤ gi xs k ∧ gi xs k ≤ 255 := by
  obtain ⟨a0, len0, cap0, rfl⟩ := okWide_slice Try.underlying22 hval
  obtain ⟨fuel, hf⟩ := h
  rcases open_ints Try.underlying22 Try.underlying5 (by kernel_rfl) hf with ⟨hcs, _⟩ | ⟨x, l, c, zs, hcs, _, hl, hm, hz, _, hcell, hwz⟩
  · simp [Value.cells] at hcs
    obtain ⟨rfl, rfl, rfl⟩ := hcs
    exact ⟨none, 0, 0, [], rfl, Nat.le_refl _, rfl, Sl.nil, fun k => by simp [gi]⟩
  · simp [Value.cells] at hcs
    obtain ⟨rfl, rfl, rfl⟩ := hcs
    simp only [if_true] at hz
    have hg : ∀ k, k < len0 → gi (zs.take len0) k = gi zs k := fun k hk => by simp [gi, hk]
    refine ⟨some x, len0, cap0, zs.take len0, rfl, hl, by simp; omega, ?_, fun k => ?_⟩
    · intro k hk
      obtain ⟨b, off, spot⟩ := x
      have hspot : spot = none := by simpa [Addr.add] using World.cell?_spot (hcell 0 (by omega))
      subst hspot
      have hc := hcell k (by omega)
      rw [add_plain] at hc
      have hbl := World.block_lt_of_cell? _ _ hc
      refine ⟨b, off, rfl, Nat.zero_le _, hbl, ?_⟩
      rw [hc]
      show _ = some (Value.int .u8 (gi (zs.take len0) k))
      rw [hg k hk]
      rfl
    · by_cases hk : k < len0
      · rw [hg k hk, gi_lt zs k (by omega)]
        have := hwz _ (List.getElem_mem (show k < zs.length by omega))
        have h1 : IntKind.u8.min = 0 := rfl
        have h2 : IntKind.u8.max = 255 := rfl
        simp only [Lit.wf, Bool.and_eq_true, decide_eq_true_eq, h1, h2] at this
        exact this
      · have : gi (zs.take len0) k = 0 := by unfold gi; rw [List.getD_eq_getElem?_getD, List.getElem?_eq_none (by simp; omega)]; rfl
        rw [this]
        decide

set_option maxRecDepth 100000 in
theorem liftedVectors (os : Os) (started : os.Started) (H : Type) (enc : TypeId × Value → H) :
    ReturnsInHanded {} Try.checked os 3 .any (Rows.fnVectorsSpec.pre6 enc Try.prog Try.f3 Rows.fnVectorsRow.domain false) (Rows.fnVectorsSpec.post enc Try.prog Try.f3 false true false false) := by
  refine returnsInHanded_of_change (C := Try.checked) own started (by kernel_rfl) Try.func3
    (ChangeSpec.witness6 (enc := enc) (C := Try.checked) false ⟨#[], #[.slice none 0 0], []⟩ 8 (by kernel_rfl) (by kernel_rfl) (by kernel_rfl) (by kernel_rfl)) ?_
  intro W base args ds gs before hval0 hW _ _
  have hval : ∀ (j : Nat) t v, Try.f3.params[j]? = some t → args[j]? = some v → Value.okWide Try.prog W .any base t v := hval0
  have hW' := hW
  obtain ⟨p, q, hA0, hV, rfl, _, _⟩ := hW
  have hA : DataW.TrodAll enc Try.prog W 0 (fun _ => true) true Try.f3.params.toList args.toList ds p := hA0
  rw [Try.params3] at hA hval
  obtain ⟨v0, vs0, d0, ds0, p0, q0, hargs, rfl, rfl, h0, r0⟩ := trodAll_cons hA
  obtain ⟨rfl, rfl, rfl⟩ := trodAll_nil r0
  obtain rfl : args = #[v0] := by cases args; simp_all
  obtain ⟨rfl, rfl⟩ := trodVars_none hV
  obtain ⟨A0, n0, c0, xs0, rfl, _, e0, s0, b0⟩ := open_u8s (hval 0 _ v0 rfl rfl) h0
  by_cases hk : n0 ≤ 1048576
  · exact law_post hW' rfl rfl (by kernel_rfl) (by kernel_rfl) (walkVectors A0 n0 c0 (gi xs0) W s0 b0 hk)
  · exact law_post hW' rfl rfl (by kernel_rfl) (by kernel_rfl) (walkVectorsBig A0 n0 c0 W (by omega))

theorem fnVectors_holds : Rows.FnVectorsSaid :=
  OpenClaim.holds_of_wide 3 Try.f3 rfl rfl rfl rfl rfl rfl rfl ⟨rfl, rfl, rfl, rfl, rfl⟩ rfl rfl rfl rfl rfl (by kernel_rfl) Try.func3 (by kernel_rfl)
    (of_decide_eq_true (by kernel_rfl)) (by unfold Func.isWrapper; first | (rw [if_pos (by decide +kernel)]; kernel_rfl) | (rw [if_neg (by decide +kernel)]; exact ⟨rfl, rfl⟩))
    (fun os started H enc _ => liftedVectors os started H enc)
#print axioms fnVectors_holds

end Go.Proofs.Ytdinhehcbbmpbaa
