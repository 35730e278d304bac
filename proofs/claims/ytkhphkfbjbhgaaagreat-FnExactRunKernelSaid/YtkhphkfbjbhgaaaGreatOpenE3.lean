/-
  How lists of events that came in are opened. No conditions.
-/
import Derived.Test.YtkhphkfbjbhgaaaGreatOpen3b
namespace Go.Proofs.YtkhphkfbjbhgaaaGreat
open Go.ChangeShapes Go.WideShapes Go.ChangeAt Go.RowKit Go.Deep
set_option maxRecDepth 100000

section
variable {H : Type} {enc : TypeId × Value → H} {W : World}
set_option maxHeartbeats 1000000 in
theorem seven_of {α : Type} {l : List α} (h : l.length = 7) : ∃ c0 c1 c2 c3 c4 c5 c6, l = [c0, c1, c2, c3, c4, c5, c6] := by
  match l, h with
  | [c0, c1, c2, c3, c4, c5, c6], _ => exact ⟨c0, c1, c2, c3, c4, c5, c6, rfl⟩
set_option maxHeartbeats 1000000 in
theorem open_events {r : Reach} {b0 : Nat} {v : Value} {d : DataW H} {ps : List MemPlace}
    (hval : Value.okWide Tryz.prog W r b0 22 v) (h : DataW.Trod enc Tryz.prog W 0 (fun _ => true) true 22 v d ps) :
    ∃ (A : Option Addr) (n c : Nat) (x : Nat → Int), v = .slice A n c ∧ n ≤ maxLen ∧ Sl W 0 W.heap.size A (n * 7) (fun k => .int .i64 (x k)) := by
  obtain ⟨a0, len0, cap0, rfl⟩ := okWide_slice Tryz.underlying22 hval
  obtain ⟨fuel, hf⟩ := h
  have k0 : Tryz.prog.cellsOf 2 = 1 := by kernel_rfl
  have k1 : Tryz.prog.cellsOf 95 = 2 := by kernel_rfl
  have k2 : Tryz.prog.cellsOf 96 = 4 := by kernel_rfl
  have k7 : Tryz.prog.cellsOf 98 = 7 := by kernel_rfl
  rcases open_slice Tryz.underlying22 hf with ⟨hcs, _⟩ | ⟨a, len, cap, mm, n, D, Pl, hcs, _, hl, hm, hmm, _, hx⟩
  · simp [Value.cells] at hcs
    obtain ⟨rfl, rfl, rfl⟩ := hcs
    exact ⟨none, 0, 0, fun _ => 0, rfl, Nat.zero_le _, fun k hk => by omega⟩
  · simp [Value.cells] at hcs
    obtain ⟨rfl, rfl, rfl⟩ := hcs
    have hmc : mm = cap0 := by simpa using hmm
    rw [k7] at hx
    have each : ∀ k, k < len0 * 7 → ∃ z : Int, W.cell? (a.add k) = some (.int .i64 z) := fun k hk => by
      obtain ⟨cs', h1, h2⟩ := hx (k / 7) (by omega)
      obtain ⟨_, hlen, hcell⟩ := World.cells?_some h1
      have hcc := hcell (k % 7) (by omega)
      rw [add_add, show k / 7 * 7 + k % 7 = k by omega] at hcc
      rw [hcc]
      obtain ⟨c0, c1, c2, c3, c4, c5, c6, rfl⟩ := seven_of hlen
      obtain ⟨xs, nn, _, _, _, hxl, hf2⟩ := DataW.trod_struct Tryz.underlying98 h2
      match xs, hxl with
      | [y0, y1, y2], _ =>
        have g0 := hf2 0 _ rfl
        have g1 := hf2 1 _ rfl
        have g2 := hf2 2 _ rfl
        simp [k0, k1, k2] at g0 g1 g2
        obtain ⟨z, e0, _⟩ := DataW.trod_int Tryz.underlying2 g0
        simp at e0
        obtain ⟨z1, z2, rfl, rfl⟩ := trod_two Tryz.underlying95 rfl rfl rfl rfl Tryz.underlying2 k0 g1
        obtain ⟨z3, z4, z5, z6, rfl, rfl, rfl, rfl⟩ := trod_four Tryz.underlying96 rfl rfl rfl rfl rfl rfl rfl rfl Tryz.underlying2 k0 g2
        subst e0
        have h7 : k % 7 < 7 := Nat.mod_lt _ (by omega)
        match k % 7, h7 with
        | 0, _ => exact ⟨_, rfl⟩
        | 1, _ => exact ⟨_, rfl⟩
        | 2, _ => exact ⟨_, rfl⟩
        | 3, _ => exact ⟨_, rfl⟩
        | 4, _ => exact ⟨_, rfl⟩
        | 5, _ => exact ⟨_, rfl⟩
        | 6, _ => exact ⟨_, rfl⟩
    obtain ⟨Z, hZ⟩ := choose_lt each
    refine ⟨some a, len0, cap0, Z, rfl, by omega, fun k hk => ?_⟩
    have hck := hZ k hk
    obtain ⟨b, off, spot⟩ := a
    have hspot : spot = none := by simpa [Addr.add] using plain_addr (hZ 0 (by omega))
    subst hspot
    rw [add_plain] at hck
    exact ⟨b, off, rfl, Nat.zero_le _, World.block_lt_of_cell? _ _ hck, hck⟩
end

end Go.Proofs.YtkhphkfbjbhgaaaGreat
