/-
  How lists of plans that came in are opened. No conditions.
-/
import Derived.Test.YtachpoehejdpjaaOpen2
import Derived.Test.YtachpoehejdpjaaPl7
import Derived.Deep.SlicePairs
namespace Go.Proofs.Ytachpoehejdpjaa
open Go.ChangeShapes Go.WideShapes Go.ChangeAt Go.RowKit Go.Deep
set_option maxRecDepth 100000

section
variable {H : Type} {enc : TypeId × Value → H} {W : World}
theorem open_plans {r : Reach} {b0 : Nat} {v : Value} {d : DataW H} {ps : List MemPlace}
    (hval : Value.okWide Try.prog W r b0 28 v) (h : DataW.Trod enc Try.prog W 0 (fun _ => true) true 28 v d ps) :
    ∃ A n c t B m q x, v = .slice A n c ∧ n ≤ maxLen ∧ (∀ i, i < n → m i ≤ maxLen) ∧ PL W 0 W.heap.size A n t B m q x := by
  obtain ⟨a0, len0, cap0, rfl⟩ := okWide_slice Try.underlying28 hval
  obtain ⟨fuel, hf⟩ := h
  have k3 : Try.prog.cellsOf 2 = 1 := by kernel_rfl
  rcases open_slice_pairs Try.underlying28 Try.underlying71 (by kernel_rfl) rfl rfl (by kernel_rfl) (by kernel_rfl) hf with ⟨hcs, _⟩ | ⟨a, len, cap, m, n, V0, V1, D0, D1, P0, P1, hcs, _, hl, hm, hmm, _, hx⟩
  · simp [Value.cells] at hcs
    obtain ⟨rfl, rfl, rfl⟩ := hcs
    exact ⟨none, 0, 0, fun _ => 0, fun _ => none, fun _ => 0, fun _ => 0, fun _ _ => 0, rfl, Nat.zero_le _, fun i hi => absurd hi (Nat.not_lt_zero _), ⟨Sl.nil, fun i hi => absurd hi (Nat.not_lt_zero _)⟩⟩
  · simp [Value.cells] at hcs
    obtain ⟨rfl, rfl, rfl⟩ := hcs
    have hmc : m = cap0 := by simpa using hmm
    have e0 : ∀ i, i < m → ∃ z : Int, V0 i = .int .i64 z := fun i hi => by
      obtain ⟨z, e, _⟩ := DataW.trod_int Try.underlying2 (hx i hi).2.2.1
      exact ⟨z, by simpa using e⟩
    have e1 : ∀ i, i < m → ∃ z : Option Addr × Nat × Nat × List Int, V1 i = .slice z.1 z.2.1 z.2.2.1 ∧ z.2.1 ≤ maxLen ∧ Sl W 0 W.heap.size z.1 (z.2.1 * 3) (fun k => .int .i64 (gi z.2.2.2 k)) := fun i hi => by
      obtain ⟨A, n, c, xs, e, h1, h2, h3, h4, h5⟩ := open_ssl2 (m := 3) Try.underlying69 Try.underlying23 (by kernel_rfl) (fun j hj => by
        match j, hj with
        | 0, _ => exact ⟨_, rfl, rfl, k3, Try.underlying2⟩
        | 1, _ => exact ⟨_, rfl, rfl, k3, Try.underlying2⟩
        | 2, _ => exact ⟨_, rfl, rfl, k3, Try.underlying2⟩) (hx i hi).2.2.2
      exact ⟨(A, n, c, xs), e, by show n ≤ maxLen; omega, h5⟩
    obtain ⟨Z0, hZ0⟩ := choose_lt e0
    obtain ⟨Z1, hZ1⟩ := choose_lt e1
    refine ⟨some a, len0, cap0, Z0, fun i => (Z1 i).1, fun i => (Z1 i).2.1, fun i => (Z1 i).2.2.1, fun i => gi (Z1 i).2.2.2, rfl, by omega, fun i hi => (hZ1 i (by omega)).2.1, ⟨fun k hk => ?_, fun i hi => (hZ1 i (by omega)).2.2⟩⟩
    obtain ⟨b, off, spot⟩ := a
    have hi : k / 2 < m := by omega
    obtain ⟨c0, c1, _⟩ := hx (k / 2) hi
    have hspot : spot = none := by simpa [Addr.add] using World.cell?_spot (hx 0 (by omega)).1
    subst hspot
    rw [add_plain] at c0 c1
    have hb := World.block_lt_of_cell? _ _ c0
    refine ⟨b, off, rfl, Nat.zero_le _, hb, ?_⟩
    unfold pc7
    by_cases h2 : k % 2 = 0
    · rw [if_pos h2]
      rw [show off + k / 2 * 2 = off + k by omega] at c0
      rw [c0, hZ0 _ hi]
    · rw [if_neg h2]
      rw [show off + (k / 2 * 2 + 1) = off + k by omega] at c1
      rw [c1, (hZ1 _ hi).1]
end

end Go.Proofs.Ytachpoehejdpjaa
