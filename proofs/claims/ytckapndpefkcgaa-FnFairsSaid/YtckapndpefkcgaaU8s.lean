/-
  How a code that came in is opened: a list of numbers from 0 to 255. No conditions.
-/
import Derived.Test.YtckapndpefkcgaaLaw
set_option maxHeartbeats 1000000
namespace Go.Proofs.Ytckapndpefkcgaa
open Go.ChangeShapes Go.WideShapes Go.ChangeAt Go.RowKit
set_option maxRecDepth 100000

theorem open_u8s {H : Type} {enc : TypeId × Value → H} {W : World} {r : Reach} {b0 : Nat} {v : Value} {d : DataW H} {ps : List MemPlace}
    (hval : Value.okWide Try.prog W r b0 22 v) (h : DataW.Trod enc Try.prog W 0 (fun _ => true) true 22 v d ps) :
    ∃ A n c xs, v = .slice A n c ∧ n ≤ c ∧ xs.length = n ∧ Sl W 0 W.heap.size A n (fun k => .int .u8 (gi xs k)) ∧ ∀ k, 0 ≤ gi xs k ∧ gi xs k ≤ 255 := by
  obtain ⟨a0, len0, cap0, rfl⟩ := okWide_slice Try.underlying22 hval
  obtain ⟨fuel, hf⟩ := h
  rcases open_ints Try.underlying22 Try.underlying5 (by kernel_rfl) hf with ⟨hcs, _⟩ | ⟨x, l, c, zs, hcs, _, hl, hm, hz, _, hcell, hwz⟩
  · simp [Value.cells] at hcs
    obtain ⟨rfl, rfl, rfl⟩ := hcs
    exact ⟨none, 0, 0, [], rfl, Nat.le_refl _, rfl, Sl.nil, fun k => by simp [gi]⟩
  · simp [Value.cells] at hcs
    obtain ⟨rfl, rfl, rfl⟩ := hcs
    simp only [if_true] at hz
    have hg : ∀ k, k < len0 → gi (zs.take len0) k = gi zs k := fun k hk => by simp [gi, hk]
    refine ⟨some x, len0, cap0, zs.take len0, rfl, hl, by simp; omega, ?_, fun k => ?_⟩
    · intro k hk
      obtain ⟨b, off, spot⟩ := x
      have hspot : spot = none := by simpa [Addr.add] using World.cell?_spot (hcell 0 (by omega))
      subst hspot
      have hc := hcell k (by omega)
      rw [add_plain] at hc
      have hbl := World.block_lt_of_cell? _ _ hc
      refine ⟨b, off, rfl, Nat.zero_le _, hbl, ?_⟩
      rw [hc]
      show _ = some (Value.int .u8 (gi (zs.take len0) k))
      rw [hg k hk]
      rfl
    · by_cases hk : k < len0
      · rw [hg k hk, gi_lt zs k (by omega)]
        have := hwz _ (List.getElem_mem (show k < zs.length by omega))
        have h1 : IntKind.u8.min = 0 := rfl
        have h2 : IntKind.u8.max = 255 := rfl
        simp only [Lit.wf, Bool.and_eq_true, decide_eq_true_eq, h1, h2] at this
        exact this
      · have : gi (zs.take len0) k = 0 := by unfold gi; rw [List.getD_eq_getElem?_getD, List.getElem?_eq_none (by simp; omega)]; rfl
        rw [this]
        decide

end Go.Proofs.Ytckapndpefkcgaa
