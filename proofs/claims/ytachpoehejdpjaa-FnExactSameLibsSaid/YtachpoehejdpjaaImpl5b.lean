/-
  The program's lists of those that are ready, their map, and the schedule made of a map. No conditions beyond that the list can be read.
-/
import Derived.Test.YtachpoehejdpjaaImpl5a
namespace Go.Proofs.Ytachpoehejdpjaa
open Go.RowKit
set_option maxRecDepth 100000

/-- a list of those that are ready, as it lies -/
abbrev RS (w : World) (lo hi : Nat) (A : Option Addr) (xs : List R3) : Prop := Sl w lo hi A (xs.length * 3) (fun k => .int .i64 (gi (fl xs) k))
theorem RS.get {w : World} {lo hi : Nat} {A : Option Addr} {xs : List R3} (h : RS w lo hi A xs) {i : Nat} (hi' : i < xs.length) : ∃ b off, A = some ⟨b, off, none⟩ ∧ lo ≤ b ∧ b < hi ∧
    ∀ j, j < xs.length → w.cell? ⟨b, off + j * 3, none⟩ = some (.int .i64 (g3 xs j).1) ∧ w.cell? ⟨b, off + j * 3 + 1, none⟩ = some (.int .i64 (g3 xs j).2.1) ∧ w.cell? ⟨b, off + j * 3 + 2, none⟩ = some (.int .i64 (g3 xs j).2.2) := by
  obtain ⟨b, off, e, h1, h2, hc⟩ := h.at_ (show i * 3 < xs.length * 3 by omega)
  refine ⟨b, off, e, h1, h2, fun j hj => ?_⟩
  obtain ⟨g0, g1, g2⟩ := fl_get xs j hj
  have a0 := hc (j * 3) (by omega); have a1 := hc (j * 3 + 1) (by omega); have a2 := hc (j * 3 + 2) (by omega)
  simp only [g0, g1, g2] at a0 a1 a2
  exact ⟨a0, a1, a2⟩

end Go.Proofs.Ytachpoehejdpjaa
