/-
  How entries and slices of entries that came in are opened. No conditions.
-/
import Derived.Test.YtfaamjbdffcngaaOpen2
namespace Go.Proofs.Ytfaamjbdffcngaa
open Go.ChangeShapes Go.WideShapes Go.ChangeAt Go.RowKit Go.Deep
set_option maxRecDepth 100000

section
variable {H : Type} {enc : TypeId × Value → H} {W : World}
theorem open_entry {r : Reach} {b0 : Nat} {v : Value} {d : DataW H} {ps : List MemPlace}
    (hval : Value.okWide Try.prog W r b0 41 v) (h : DataW.Trod enc Try.prog W 0 (fun _ => true) true 41 v d ps) :
    ∃ p i : Int, v = .agg #[.int .i64 p, .int .i64 i] := by
  obtain ⟨v0, v1, y0, y1, n, rfl, _, _, h0, h1⟩ := Go.Joins.open_agg2 Try.underlying41 (by kernel_rfl) (by kernel_rfl) hval h
  obtain ⟨u, e0, _, _⟩ := DataW.trod_int Try.underlying2 h0
  obtain ⟨x, e1, _, _⟩ := DataW.trod_int Try.underlying2 h1
  simp at e0 e1
  subst e0 e1
  exact ⟨u, x, rfl⟩
theorem open_entries {r : Reach} {b0 : Nat} {v : Value} {d : DataW H} {ps : List MemPlace}
    (hval : Value.okWide Try.prog W r b0 44 v) (h : DataW.Trod enc Try.prog W 0 (fun _ => true) true 44 v d ps) :
    ∃ A n c xs, v = .slice A n c ∧ n ≤ maxLen ∧ (A = none → c = 0) ∧ xs.length = n * 2 ∧ Sl W 0 W.heap.size A (n * 2) (fun k => .int .i64 (gi xs k)) := by
  obtain ⟨a0, len0, cap0, rfl⟩ := okWide_slice Try.underlying44 hval
  obtain ⟨fuel, hf⟩ := h
  have k3 : Try.prog.cellsOf 2 = 1 := by kernel_rfl
  obtain ⟨A, n, c, xs, e, h1, h2, h3, h4, h5⟩ := open_ssl2 (m := 2) Try.underlying44 Try.underlying41 (by kernel_rfl) (fun j hj => by
      match j, hj with
      | 0, _ => exact ⟨_, rfl, rfl, k3, Try.underlying2⟩
      | 1, _ => exact ⟨_, rfl, rfl, k3, Try.underlying2⟩) hf
  exact ⟨A, n, c, xs, e, by omega, h3, h4, h5⟩
end

end Go.Proofs.Ytfaamjbdffcngaa
