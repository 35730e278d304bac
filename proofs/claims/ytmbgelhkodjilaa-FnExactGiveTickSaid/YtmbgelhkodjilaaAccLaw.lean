/-
  How an account that came in is opened: four numbers. No conditions.
-/
import Derived.Test.YtmbgelhkodjilaaLaw
import Derived.Lib.SmallJoins
namespace Go.Proofs.Ytmbgelhkodjilaa
open Go.ChangeShapes Go.WideShapes Go.ChangeAt Go.RowKit

theorem open_acc {H : Type} {enc : TypeId × Value → H} {W : World} {r : Reach} {b0 : Nat} {v : Value} {d : DataW H} {ps : List MemPlace}
    (hval : Value.okWide Try.prog W r b0 34 v) (h : DataW.Trod enc Try.prog W 0 (fun _ => true) true 34 v d ps) :
    ∃ u x g k : Int, v = .agg #[.int .i64 u, .int .i64 x, .int .i64 g, .int .i64 k] := by
  obtain ⟨v0, v1, v2, v3, y0, y1, y2, y3, n, rfl, _, _, h0, h1, h2, h3⟩ := Go.Joins.open_agg4 Try.underlying34 (by kernel_rfl) (by kernel_rfl) hval h
  obtain ⟨u, e0, _, _⟩ := DataW.trod_int Try.underlying2 h0
  obtain ⟨x, e1, _, _⟩ := DataW.trod_int Try.underlying2 h1
  obtain ⟨g, e2, _, _⟩ := DataW.trod_int Try.underlying2 h2
  obtain ⟨k, e3, _, _⟩ := DataW.trod_int Try.underlying2 h3
  simp at e0 e1 e2 e3
  subst e0 e1 e2 e3
  exact ⟨u, x, g, k, rfl⟩

end Go.Proofs.Ytmbgelhkodjilaa
