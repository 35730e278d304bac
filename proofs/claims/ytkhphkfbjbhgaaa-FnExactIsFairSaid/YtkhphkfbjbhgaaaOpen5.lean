/-
  How schedules that came in are opened. No conditions.
-/
import Derived.Test.YtkhphkfbjbhgaaaOpen2
import Derived.Test.YtkhphkfbjbhgaaaImpl5b
namespace Go.Proofs.Ytkhphkfbjbhgaaa
open Go.ChangeShapes Go.WideShapes Go.ChangeAt Go.RowKit Go.Deep
set_option maxRecDepth 100000

theorem fl_of (n : Nat) : ∀ hs : List Int, hs.length = n * 3 → ∃ xs : List R3, xs.length = n ∧ fl xs = hs := by
  induction n with
  | zero => intro hs h; exact ⟨[], rfl, by have : hs = [] := List.length_eq_zero_iff.1 (by omega); rw [this]; rfl⟩
  | succ n ih =>
    intro hs h
    match hs, h with
    | a :: b :: c :: t, h =>
      obtain ⟨xs, h1, h2⟩ := ih t (by simp at h; omega)
      exact ⟨(a, b, c) :: xs, by simp [h1], by rw [← h2]; simp [fl]⟩
    | [], h => simp at h
    | [_], h => simp at h; omega
    | [_, _], h => simp at h; omega
section
variable {H : Type} {enc : TypeId × Value → H} {W : World}
theorem open_sched {r : Reach} {b0 : Nat} {v : Value} {d : DataW H} {ps : List MemPlace}
    (hval : Value.okWide Try.prog W r b0 31 v) (h : DataW.Trod enc Try.prog W 0 (fun _ => true) true 31 v d ps) :
    ∃ A n c b xs, v = .agg #[.int .i64 b, .slice A n c] ∧ n ≤ maxLen ∧ n = xs.length ∧ RS W 0 W.heap.size A xs := by
  obtain ⟨v0, v1, y0, y1, n, rfl, hv0, hv1, h0, h1⟩ := Go.Joins.open_agg2 Try.underlying31 (by kernel_rfl) (by kernel_rfl) hval h
  obtain ⟨b, e0, _, _⟩ := DataW.trod_int Try.underlying2 h0
  simp at e0
  subst e0
  have k3 : Try.prog.cellsOf 2 = 1 := by kernel_rfl
  have h1' : DataW.trod enc Try.prog W 0 (fun _ => true) true n 29 [v1] = some y1 := by simpa using h1
  obtain ⟨A, m, c, hs, e, l1, l2, l3, l4, l5⟩ := open_ssl2 (m := 3) Try.underlying29 Try.underlying67 (by kernel_rfl) (fun j hj => by
      match j, hj with
      | 0, _ => exact ⟨_, rfl, rfl, k3, Try.underlying2⟩
      | 1, _ => exact ⟨_, rfl, rfl, k3, Try.underlying2⟩
      | 2, _ => exact ⟨_, rfl, rfl, k3, Try.underlying2⟩) h1'
  obtain ⟨xs, g1, g2⟩ := fl_of m hs l4
  subst e
  refine ⟨A, m, c, b, xs, rfl, by omega, g1.symm, ?_⟩
  unfold RS
  rw [g1, g2]
  exact l5
end

end Go.Proofs.Ytkhphkfbjbhgaaa
