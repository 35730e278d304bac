/-
  How calls and events that came in are opened: numbers one behind the other. No conditions.
-/
import Derived.Test.YteigjjgekkcfkaaOpen3
namespace Go.Proofs.Yteigjjgekkcfkaa
open Go.ChangeShapes Go.WideShapes Go.ChangeAt Go.RowKit Go.Deep
set_option maxRecDepth 100000

theorem array7 {α : Type} {cs : Array α} (h : cs.size = 7) : ∃ c0 c1 c2 c3 c4 c5 c6, cs = #[c0, c1, c2, c3, c4, c5, c6] := by
  obtain ⟨l⟩ := cs
  match l, h with
  | [c0, c1, c2, c3, c4, c5, c6], _ => exact ⟨c0, c1, c2, c3, c4, c5, c6, rfl⟩

section
variable {H : Type} {enc : TypeId × Value → H} {W : World}

theorem trod_two {P : Program} {t ty : TypeId} {f0 f1 : Field} {fuel : Nat} {c0 c1 : Value} {y : DataW H × List MemPlace} (ht : P.underlying t = some (.struct #[f0, f1])) (e0 : f0.type = ty) (e1 : f1.type = ty) (o0 : f0.offset = 0) (o1 : f1.offset = 1) (hi : P.underlying ty = some (.int .i64)) (hc : P.cellsOf ty = 1)
    (h : DataW.trod enc P W 0 (fun _ => true) true fuel t [c0, c1] = some y) : ∃ a b : Int, c0 = .int .i64 a ∧ c1 = .int .i64 b := by
  obtain ⟨xs, n, _, _, _, hxl, hx⟩ := DataW.trod_struct ht h
  match xs, hxl with
  | [y0, y1], _ =>
    have g0 := hx 0 _ rfl
    have g1 := hx 1 _ rfl
    simp [e0, e1, o0, o1, hc] at g0 g1
    obtain ⟨a, ea, _⟩ := DataW.trod_int hi g0
    obtain ⟨b, eb, _⟩ := DataW.trod_int hi g1
    simp at ea eb
    exact ⟨a, b, ea, eb⟩
theorem trod_four {P : Program} {t ty : TypeId} {f0 f1 f2 f3 : Field} {fuel : Nat} {c0 c1 c2 c3 : Value} {y : DataW H × List MemPlace} (ht : P.underlying t = some (.struct #[f0, f1, f2, f3])) (e0 : f0.type = ty) (e1 : f1.type = ty) (e2 : f2.type = ty) (e3 : f3.type = ty) (o0 : f0.offset = 0) (o1 : f1.offset = 1) (o2 : f2.offset = 2) (o3 : f3.offset = 3) (hi : P.underlying ty = some (.int .i64)) (hc : P.cellsOf ty = 1)
    (h : DataW.trod enc P W 0 (fun _ => true) true fuel t [c0, c1, c2, c3] = some y) : ∃ a b c d : Int, c0 = .int .i64 a ∧ c1 = .int .i64 b ∧ c2 = .int .i64 c ∧ c3 = .int .i64 d := by
  obtain ⟨xs, n, _, _, _, hxl, hx⟩ := DataW.trod_struct ht h
  match xs, hxl with
  | [y0, y1, y2, y3], _ =>
    have g0 := hx 0 _ rfl
    have g1 := hx 1 _ rfl
    have g2 := hx 2 _ rfl
    have g3 := hx 3 _ rfl
    simp [e0, e1, e2, e3, o0, o1, o2, o3, hc] at g0 g1 g2 g3
    obtain ⟨a, ea, _⟩ := DataW.trod_int hi g0
    obtain ⟨b, eb, _⟩ := DataW.trod_int hi g1
    obtain ⟨c, ec, _⟩ := DataW.trod_int hi g2
    obtain ⟨d, ed, _⟩ := DataW.trod_int hi g3
    simp at ea eb ec ed
    exact ⟨a, b, c, d, ea, eb, ec, ed⟩

/-- a call that came in -/
theorem open_call {r : Reach} {b0 : Nat} {v : Value} {d : DataW H} {ps : List MemPlace}
    (hval : Value.okWide Try.prog W r b0 43 v) (h : DataW.Trod enc Try.prog W 0 (fun _ => true) true 43 v d ps) :
    ∃ k e s t : Int, v = .agg #[.int .i64 k, .int .i64 e, .int .i64 s, .int .i64 t] := by
  obtain ⟨v0, v1, v2, v3, y0, y1, y2, y3, n, rfl, _, _, h0, h1, h2, h3⟩ := Go.Joins.open_agg4 Try.underlying43 (by kernel_rfl) (by kernel_rfl) hval h
  obtain ⟨u, e0, _, _⟩ := DataW.trod_int Try.underlying2 h0
  obtain ⟨x, e1, _, _⟩ := DataW.trod_int Try.underlying2 h1
  obtain ⟨g, e2, _, _⟩ := DataW.trod_int Try.underlying2 h2
  obtain ⟨k, e3, _, _⟩ := DataW.trod_int Try.underlying2 h3
  simp at e0 e1 e2 e3
  subst e0 e1 e2 e3
  exact ⟨u, x, g, k, rfl⟩

/-- an event that came in -/
theorem open_event {r : Reach} {b0 : Nat} {v : Value} {d : DataW H} {ps : List MemPlace}
    (hval : Value.okWide Try.prog W r b0 51 v) (h : DataW.Trod enc Try.prog W 0 (fun _ => true) true 51 v d ps) :
    ∃ k a b c e s t : Int, v = .agg #[.int .i64 k, .int .i64 a, .int .i64 b, .int .i64 c, .int .i64 e, .int .i64 s, .int .i64 t] := by
  obtain ⟨cs, rfl, hsz⟩ := okWide_struct Try.underlying51 hval
  obtain ⟨c0, c1, c2, c3, c4, c5, c6, rfl⟩ := array7 (hsz.trans (by kernel_rfl))
  obtain ⟨fuel, hf⟩ := h
  obtain ⟨xs, n, _, _, _, hxl, hx⟩ := DataW.trod_struct Try.underlying51 hf
  match xs, hxl with
  | [y0, y1, y2], _ =>
    have k0 : Try.prog.cellsOf 2 = 1 := by kernel_rfl
    have k1 : Try.prog.cellsOf 49 = 2 := by kernel_rfl
    have k2 : Try.prog.cellsOf 43 = 4 := by kernel_rfl
    have g0 := hx 0 _ rfl
    have g1 := hx 1 _ rfl
    have g2 := hx 2 _ rfl
    simp [Value.cells, k0, k1, k2] at g0 g1 g2
    obtain ⟨k, e0, _⟩ := DataW.trod_int Try.underlying2 g0
    simp at e0
    obtain ⟨a, b, rfl, rfl⟩ := trod_two Try.underlying49 rfl rfl rfl rfl Try.underlying2 k0 g1
    obtain ⟨c, e, s, t, rfl, rfl, rfl, rfl⟩ := trod_four Try.underlying43 rfl rfl rfl rfl rfl rfl rfl rfl Try.underlying2 k0 g2
    subst e0
    exact ⟨k, a, b, c, e, s, t, rfl⟩
end

end Go.Proofs.Yteigjjgekkcfkaa
