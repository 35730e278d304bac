/-
  How locks and queues that came in are opened. No conditions.
-/
import Derived.Test.YtfgllhomnmacfaaDoorLaw6
import Derived.Lib.SmallJoins
import Derived.Deep.Grids
namespace Go.Proofs.YtfgllhomnmacfaaDoor
open Go.ChangeShapes Go.WideShapes Go.ChangeAt Go.RowKit Go.Deep
set_option maxRecDepth 100000

section
variable {H : Type} {enc : TypeId × Value → H} {P : Program} {W : World}
theorem plain_addr6 {x : Addr} {u : Value} (h : W.cell? x = some u) : x.spot = none := World.cell?_spot h
theorem open_isl6 {t e : TypeId} {fuel : Nat} {v : Value} {y : DataW H × List MemPlace} (ht : P.underlying t = some (.slice e)) (he : P.underlying e = some (.int .i64)) (hc : P.cellsOf e = 1)
    (h : DataW.trod enc P W 0 (fun _ => true) true fuel t [v] = some y) :
    ∃ A n c xs, v = .slice A n c ∧ n ≤ c ∧ c ≤ maxLen ∧ (A = none → c = 0) ∧ xs.length = n ∧ Sl W 0 W.heap.size A n (fun k => .int .i64 (gi xs k)) := by
  rcases open_slice1 ht hc h with ⟨hcs, _⟩ | ⟨a, len, cap, m, n, V, D, Pl, hcs, _, hl, hm, hmm, _, hx⟩
  · simp at hcs
    subst hcs
    exact ⟨none, 0, 0, [], rfl, Nat.le_refl _, Nat.zero_le _, fun _ => rfl, rfl, Sl.nil⟩
  · simp at hcs hmm
    subst hcs hmm
    have each : ∀ i, i < m → ∃ z : Int, V i = .int .i64 z := fun i hi => by
      obtain ⟨z, e0, _⟩ := DataW.trod_int he (hx i hi).2
      exact ⟨z, by simpa using e0⟩
    obtain ⟨Z, hZ⟩ := choose_lt each
    refine ⟨some a, len, m, (List.range len).map Z, rfl, hl, hm, fun h => by simp at h, by simp, fun k hk => ?_⟩
    have hck := (hx k (by omega)).1
    obtain ⟨b, off, spot⟩ := a
    have hspot : spot = none := by simpa [Addr.add] using plain_addr6 (hx 0 (by omega)).1
    subst hspot
    rw [add_plain] at hck
    refine ⟨b, off, rfl, Nat.zero_le _, World.block_lt_of_cell? _ _ hck, ?_⟩
    rw [hck, hZ k (by omega)]
    show _ = some (Value.int .i64 (gi _ k))
    rw [gi_lt _ k (by simpa using hk)]
    simp

theorem open_queue {r : Reach} {b0 : Nat} {v : Value} {d : DataW H} {ps : List MemPlace}
    (_ : Value.okWide Tryd.prog W r b0 24 v) (h : DataW.Trod enc Tryd.prog W 0 (fun _ => true) true 24 v d ps) :
    ∃ A n c xs, v = .slice A n c ∧ n ≤ c ∧ c ≤ maxLen ∧ (A = none → c = 0) ∧ xs.length = n ∧ Sl W 0 W.heap.size A n (fun k => .int .i64 (gi xs k)) := by
  obtain ⟨fuel, hf⟩ := h
  obtain ⟨A, n, c, xs, e, h1, h2, h3, h4, h5⟩ := open_isl6 (v := v) Tryd.underlying24 Tryd.underlying2 (by kernel_rfl) (by
    have e1 : v.cells.toList = [v] := by
      obtain ⟨a0, len0, cap0, rfl⟩ := okWide_slice Tryd.underlying24 (by assumption)
      rfl
    rw [← e1]
    exact hf)
  exact ⟨A, n, c, xs, e, h1, h2, h3, h4, h5⟩
theorem open_lock {r : Reach} {b0 : Nat} {v : Value} {d : DataW H} {ps : List MemPlace}
    (hval : Value.okWide Tryd.prog W r b0 44 v) (h : DataW.Trod enc Tryd.prog W 0 (fun _ => true) true 44 v d ps) :
    ∃ A n c o xs, v = .agg #[.int .i64 o, .slice A n c] ∧ n ≤ c ∧ c ≤ maxLen ∧ (A = none → c = 0) ∧ xs.length = n ∧ Sl W 0 W.heap.size A n (fun k => .int .i64 (gi xs k)) := by
  obtain ⟨v0, v1, y0, y1, n, rfl, hv0, hv1, h0, h1⟩ := Go.Joins.open_agg2 Tryd.underlying44 (by kernel_rfl) (by kernel_rfl) hval h
  obtain ⟨b, e0, _, _⟩ := DataW.trod_int Tryd.underlying2 h0
  simp at e0
  subst e0
  have h1' : DataW.trod enc Tryd.prog W 0 (fun _ => true) true n 24 [v1] = some y1 := by simpa using h1
  obtain ⟨A, m, c, xs, e, l1, l2, l3, l4, l5⟩ := open_isl6 Tryd.underlying24 Tryd.underlying2 (by kernel_rfl) h1'
  subst e
  exact ⟨A, m, c, b, xs, rfl, l1, l2, l3, l4, l5⟩
end

end Go.Proofs.YtfgllhomnmacfaaDoor
