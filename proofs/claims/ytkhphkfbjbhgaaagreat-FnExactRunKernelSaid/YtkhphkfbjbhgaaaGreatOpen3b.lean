/-
  How calls and events that came in are opened: numbers one behind the other. No conditions.
-/
import Derived.Lib.SmallJoins
import Derived.Deep.Grids
import Derived.Test.YtkhphkfbjbhgaaaGreatLaw
import Derived.Test.YtkhphkfbjbhgaaaGreatKer3
-- Open3
namespace Go.Proofs.YtkhphkfbjbhgaaaGreat
open Go.ChangeShapes Go.WideShapes Go.ChangeAt Go.RowKit Go.Deep
set_option maxRecDepth 100000

section
variable {H : Type} {enc : TypeId × Value → H} {P : Program} {W : World}

set_option maxHeartbeats 1000000 in
theorem plain_addr {x : Addr} {u : Value} (h : W.cell? x = some u) : x.spot = none := World.cell?_spot h

end

end Go.Proofs.YtkhphkfbjbhgaaaGreat

-- Open3b
namespace Go.Proofs.YtkhphkfbjbhgaaaGreat
open Go.ChangeShapes Go.WideShapes Go.ChangeAt Go.RowKit Go.Deep
set_option maxRecDepth 100000

section
variable {H : Type} {enc : TypeId × Value → H} {W : World}

set_option maxHeartbeats 1000000 in
theorem trod_two {P : Program} {t ty : TypeId} {f0 f1 : Field} {fuel : Nat} {c0 c1 : Value} {y : DataW H × List MemPlace} (ht : P.underlying t = some (.struct #[f0, f1])) (e0 : f0.type = ty) (e1 : f1.type = ty) (o0 : f0.offset = 0) (o1 : f1.offset = 1) (hi : P.underlying ty = some (.int .i64)) (hc : P.cellsOf ty = 1)
    (h : DataW.trod enc P W 0 (fun _ => true) true fuel t [c0, c1] = some y) : ∃ a b : Int, c0 = .int .i64 a ∧ c1 = .int .i64 b := by
  obtain ⟨xs, n, _, _, _, hxl, hx⟩ := DataW.trod_struct ht h
  match xs, hxl with
  | [y0, y1], _ =>
    have g0 := hx 0 _ rfl
    have g1 := hx 1 _ rfl
    simp [e0, e1, o0, o1, hc] at g0 g1
    obtain ⟨a, ea, _⟩ := DataW.trod_int hi g0
    obtain ⟨b, eb, _⟩ := DataW.trod_int hi g1
    simp at ea eb
    exact ⟨a, b, ea, eb⟩
set_option maxHeartbeats 1000000 in
theorem trod_four {P : Program} {t ty : TypeId} {f0 f1 f2 f3 : Field} {fuel : Nat} {c0 c1 c2 c3 : Value} {y : DataW H × List MemPlace} (ht : P.underlying t = some (.struct #[f0, f1, f2, f3])) (e0 : f0.type = ty) (e1 : f1.type = ty) (e2 : f2.type = ty) (e3 : f3.type = ty) (o0 : f0.offset = 0) (o1 : f1.offset = 1) (o2 : f2.offset = 2) (o3 : f3.offset = 3) (hi : P.underlying ty = some (.int .i64)) (hc : P.cellsOf ty = 1)
    (h : DataW.trod enc P W 0 (fun _ => true) true fuel t [c0, c1, c2, c3] = some y) : ∃ a b c d : Int, c0 = .int .i64 a ∧ c1 = .int .i64 b ∧ c2 = .int .i64 c ∧ c3 = .int .i64 d := by
  obtain ⟨xs, n, _, _, _, hxl, hx⟩ := DataW.trod_struct ht h
  match xs, hxl with
  | [y0, y1, y2, y3], _ =>
    have g0 := hx 0 _ rfl
    have g1 := hx 1 _ rfl
    have g2 := hx 2 _ rfl
    have g3 := hx 3 _ rfl
    simp [e0, e1, e2, e3, o0, o1, o2, o3, hc] at g0 g1 g2 g3
    obtain ⟨a, ea, _⟩ := DataW.trod_int hi g0
    obtain ⟨b, eb, _⟩ := DataW.trod_int hi g1
    obtain ⟨c, ec, _⟩ := DataW.trod_int hi g2
    obtain ⟨d, ed, _⟩ := DataW.trod_int hi g3
    simp at ea eb ec ed
    exact ⟨a, b, c, d, ea, eb, ec, ed⟩

end

end Go.Proofs.YtkhphkfbjbhgaaaGreat
