/-
  How slices of structs of numbers that came in are opened. No conditions.
-/
import Derived.Test.YtkhphkfbjbhgaaaLaw
import Derived.Test.YtkhphkfbjbhgaaaBase3
import Derived.Lib.SmallJoins
import Derived.Deep.Grids
namespace Go.Proofs.Ytkhphkfbjbhgaaa
open Go.ChangeShapes Go.WideShapes Go.ChangeAt Go.RowKit Go.Deep
set_option maxRecDepth 100000

section
variable {H : Type} {enc : TypeId × Value → H} {P : Program} {W : World}

theorem plain_addr2 {x : Addr} {u : Value} (h : W.cell? x = some u) : x.spot = none := World.cell?_spot h

/-- a slice of structs of m numbers -/
theorem open_ssl2 {t e : TypeId} {fuel m : Nat} {fs : Array Field} {v : Value} {y : DataW H × List MemPlace} (ht : P.underlying t = some (.slice e)) (he : P.underlying e = some (.struct fs)) (hc : P.cellsOf e = m)
    (hfs : ∀ j, j < m → ∃ f, fs[j]? = some f ∧ f.offset = j ∧ P.cellsOf f.type = 1 ∧ P.underlying f.type = some (.int .i64))
    (h : DataW.trod enc P W 0 (fun _ => true) true fuel t [v] = some y) :
    ∃ A n c xs, v = .slice A n c ∧ n ≤ c ∧ c ≤ maxLen ∧ (A = none → c = 0) ∧ xs.length = n * m ∧ Sl W 0 W.heap.size A (n * m) (fun k => .int .i64 (gi xs k)) := by
  rcases open_slice ht h with ⟨hcs, _⟩ | ⟨a, len, cap, mm, n, D, Pl, hcs, _, hl, hm, hmm, _, hx⟩
  · simp at hcs
    subst hcs
    exact ⟨none, 0, 0, [], rfl, Nat.le_refl _, Nat.zero_le _, fun _ => rfl, by simp, fun k hk => by omega⟩
  · simp at hcs hmm
    subst hcs hmm
    rw [hc] at hx
    by_cases hm0 : m = 0
    · subst hm0
      exact ⟨some a, len, mm, [], rfl, hl, hm, fun h => by simp at h, by simp, fun k hk => by omega⟩
    have each : ∀ k, k < len * m → ∃ z : Int, W.cell? (a.add k) = some (.int .i64 z) := fun k hk => by
      have hd : k / m < len := Nat.div_lt_of_lt_mul (by rw [Nat.mul_comm]; exact hk)
      have hr : k % m < m := Nat.mod_lt _ (by omega)
      obtain ⟨cs', h1, h2⟩ := hx (k / m) (by omega)
      obtain ⟨_, hlen, hcell⟩ := World.cells?_some h1
      obtain ⟨xs, nn, _, _, _, _, hf⟩ := DataW.trod_struct he h2
      obtain ⟨f, f1, f2, f3, f4⟩ := hfs _ hr
      have g := hf _ f f1
      rw [f2, f3] at g
      have hxs : ∃ z, xs[k % m]? = some z := by
        cases hz : xs[k % m]? with
        | some z => exact ⟨z, rfl⟩
        | none =>
          rename_i hxl
          exact absurd hz (by rw [List.getElem?_eq_getElem (by rw [hxl]; exact (Array.getElem?_eq_some_iff.1 f1).1)]; simp)
      obtain ⟨z, hz⟩ := hxs
      rw [hz] at g
      obtain ⟨u, e0, _⟩ := DataW.trod_int f4 g
      have hcc := hcell (k % m) hr
      have e1 : cs'[k % m]? = some (.int .i64 u) := by
        have : ((cs'.drop (k % m)).take 1)[0]? = some (.int .i64 u) := by rw [e0]; rfl
        rw [List.getElem?_take, if_pos (by omega), List.getElem?_drop] at this
        simpa using this
      refine ⟨u, ?_⟩
      rw [add_add, show k / m * m + k % m = k by rw [Nat.mul_comm]; exact Nat.div_add_mod k m] at hcc
      rw [hcc, e1]
    obtain ⟨Z, hZ⟩ := choose_lt each
    refine ⟨some a, len, mm, (List.range (len * m)).map Z, rfl, hl, hm, fun h => by simp at h, by simp, fun k hk => ?_⟩
    have hck := hZ k hk
    obtain ⟨b, off, spot⟩ := a
    have hspot : spot = none := by simpa [Addr.add] using plain_addr2 (hZ 0 (by omega))
    subst hspot
    rw [add_plain] at hck
    refine ⟨b, off, rfl, Nat.zero_le _, World.block_lt_of_cell? _ _ hck, ?_⟩
    rw [hck]
    show _ = some (Value.int .i64 (gi _ k))
    rw [gi_lt _ k (by simpa using hk)]
    simp
end


end Go.Proofs.Ytkhphkfbjbhgaaa
