/-
  How calls and events that came in are opened: numbers one behind the other. No conditions.
-/
import Derived.Test.YtkhphkfbjbhgaaaLaw
import Derived.Test.YtkhphkfbjbhgaaaKer3
import Derived.Lib.SmallJoins
import Derived.Deep.Grids

-- Open3
namespace Go.Proofs.Ytkhphkfbjbhgaaa
open Go.ChangeShapes Go.WideShapes Go.ChangeAt Go.RowKit Go.Deep
set_option maxRecDepth 100000

section
variable {H : Type} {enc : TypeId × Value → H} {P : Program} {W : World}

theorem plain_addr {x : Addr} {u : Value} (h : W.cell? x = some u) : x.spot = none := World.cell?_spot h

theorem open_isl {t e : TypeId} {fuel : Nat} {v : Value} {y : DataW H × List MemPlace} (ht : P.underlying t = some (.slice e)) (he : P.underlying e = some (.int .i64)) (hc : P.cellsOf e = 1)
    (h : DataW.trod enc P W 0 (fun _ => true) true fuel t [v] = some y) :
    ∃ A n c xs, v = .slice A n c ∧ n ≤ c ∧ c ≤ maxLen ∧ (A = none → c = 0) ∧ xs.length = n ∧ Sl W 0 W.heap.size A n (fun k => .int .i64 (gi xs k)) := by
  rcases open_slice1 ht hc h with ⟨hcs, _⟩ | ⟨a, len, cap, m, n, V, D, Pl, hcs, _, hl, hm, hmm, _, hx⟩
  · simp at hcs
    subst hcs
    exact ⟨none, 0, 0, [], rfl, Nat.le_refl _, Nat.zero_le _, fun _ => rfl, rfl, Sl.nil⟩
  · simp at hcs hmm
    subst hcs hmm
    have each : ∀ i, i < m → ∃ z : Int, V i = .int .i64 z := fun i hi => by
      obtain ⟨z, e0, _⟩ := DataW.trod_int he (hx i hi).2
      exact ⟨z, by simpa using e0⟩
    obtain ⟨Z, hZ⟩ := choose_lt each
    refine ⟨some a, len, m, (List.range len).map Z, rfl, hl, hm, fun h => by simp at h, by simp, fun k hk => ?_⟩
    have hck := (hx k (by omega)).1
    obtain ⟨b, off, spot⟩ := a
    have hspot : spot = none := by simpa [Addr.add] using plain_addr (hx 0 (by omega)).1
    subst hspot
    rw [add_plain] at hck
    refine ⟨b, off, rfl, Nat.zero_le _, World.block_lt_of_cell? _ _ hck, ?_⟩
    rw [hck, hZ k (by omega)]
    show _ = some (Value.int .i64 (gi _ k))
    rw [gi_lt _ k (by simpa using hk)]
    simp

theorem open_bsl {t e : TypeId} {fuel : Nat} {v : Value} {y : DataW H × List MemPlace} (ht : P.underlying t = some (.slice e)) (he : P.underlying e = some .bool) (hc : P.cellsOf e = 1)
    (h : DataW.trod enc P W 0 (fun _ => true) true fuel t [v] = some y) :
    ∃ A n c xs, v = .slice A n c ∧ n ≤ c ∧ c ≤ maxLen ∧ (A = none → c = 0) ∧ xs.length = n ∧ Sl W 0 W.heap.size A n (fun k => .bool (gb xs k)) := by
  rcases open_bools ht he hc h with ⟨hcs, _⟩ | ⟨a, len, cap, B, hcs, _, hl, hm, _, hx⟩
  · simp at hcs
    subst hcs
    exact ⟨none, 0, 0, [], rfl, Nat.le_refl _, Nat.zero_le _, fun _ => rfl, rfl, Sl.nil⟩
  · simp at hcs
    subst hcs
    refine ⟨some a, len, cap, (List.range len).map B, rfl, hl, hm, fun h => by simp at h, by simp, fun k hk => ?_⟩
    have hck := hx k (by omega)
    obtain ⟨b, off, spot⟩ := a
    have hspot : spot = none := by simpa [Addr.add] using plain_addr (hx 0 (by omega))
    subst hspot
    rw [add_plain] at hck
    refine ⟨b, off, rfl, Nat.zero_le _, World.block_lt_of_cell? _ _ hck, ?_⟩
    rw [hck]
    show _ = some (Value.bool (gb _ k))
    rw [gb_lt _ k (by simpa using hk)]
    simp

/-- a slice of structs of m numbers -/
theorem open_ssl {t e : TypeId} {fuel m : Nat} {fs : Array Field} {v : Value} {y : DataW H × List MemPlace} (ht : P.underlying t = some (.slice e)) (he : P.underlying e = some (.struct fs)) (hc : P.cellsOf e = m)
    (hfs : ∀ j, j < m → ∃ f, fs[j]? = some f ∧ f.offset = j ∧ P.cellsOf f.type = 1 ∧ P.underlying f.type = some (.int .i64))
    (h : DataW.trod enc P W 0 (fun _ => true) true fuel t [v] = some y) :
    ∃ A n c xs, v = .slice A n c ∧ n ≤ c ∧ c ≤ maxLen ∧ (A = none → c = 0) ∧ xs.length = n * m ∧ Sl W 0 W.heap.size A (n * m) (fun k => .int .i64 (gi xs k)) := by
  rcases open_slice ht h with ⟨hcs, _⟩ | ⟨a, len, cap, mm, n, D, Pl, hcs, _, hl, hm, hmm, _, hx⟩
  · simp at hcs
    subst hcs
    exact ⟨none, 0, 0, [], rfl, Nat.le_refl _, Nat.zero_le _, fun _ => rfl, by simp, fun k hk => by omega⟩
  · simp at hcs hmm
    subst hcs hmm
    rw [hc] at hx
    by_cases hm0 : m = 0
    · subst hm0
      exact ⟨some a, len, mm, [], rfl, hl, hm, fun h => by simp at h, by simp, fun k hk => by omega⟩
    have each : ∀ k, k < len * m → ∃ z : Int, W.cell? (a.add k) = some (.int .i64 z) := fun k hk => by
      have hd : k / m < len := Nat.div_lt_of_lt_mul (by rw [Nat.mul_comm]; exact hk)
      have hr : k % m < m := Nat.mod_lt _ (by omega)
      obtain ⟨cs', h1, h2⟩ := hx (k / m) (by omega)
      obtain ⟨_, hlen, hcell⟩ := World.cells?_some h1
      obtain ⟨xs, nn, _, _, _, _, hf⟩ := DataW.trod_struct he h2
      obtain ⟨f, f1, f2, f3, f4⟩ := hfs _ hr
      have g := hf _ f f1
      rw [f2, f3] at g
      have hxs : ∃ z, xs[k % m]? = some z := by
        cases hz : xs[k % m]? with
        | some z => exact ⟨z, rfl⟩
        | none =>
          rename_i hxl
          exact absurd hz (by rw [List.getElem?_eq_getElem (by rw [hxl]; exact (Array.getElem?_eq_some_iff.1 f1).1)]; simp)
      obtain ⟨z, hz⟩ := hxs
      rw [hz] at g
      obtain ⟨u, e0, _⟩ := DataW.trod_int f4 g
      have hcc := hcell (k % m) hr
      have e1 : cs'[k % m]? = some (.int .i64 u) := by
        have : ((cs'.drop (k % m)).take 1)[0]? = some (.int .i64 u) := by rw [e0]; rfl
        rw [List.getElem?_take, if_pos (by omega), List.getElem?_drop] at this
        simpa using this
      refine ⟨u, ?_⟩
      rw [add_add, show k / m * m + k % m = k by rw [Nat.mul_comm]; exact Nat.div_add_mod k m] at hcc
      rw [hcc, e1]
    obtain ⟨Z, hZ⟩ := choose_lt each
    refine ⟨some a, len, mm, (List.range (len * m)).map Z, rfl, hl, hm, fun h => by simp at h, by simp, fun k hk => ?_⟩
    have hck := hZ k hk
    obtain ⟨b, off, spot⟩ := a
    have hspot : spot = none := by simpa [Addr.add] using plain_addr (hZ 0 (by omega))
    subst hspot
    rw [add_plain] at hck
    refine ⟨b, off, rfl, Nat.zero_le _, World.block_lt_of_cell? _ _ hck, ?_⟩
    rw [hck]
    show _ = some (Value.int .i64 (gi _ k))
    rw [gi_lt _ k (by simpa using hk)]
    simp
end

theorem array5k {α : Type} {cs : Array α} (h : cs.size = 5) : ∃ c0 c1 c2 c3 c4, cs = #[c0, c1, c2, c3, c4] := by
  obtain ⟨l⟩ := cs
  match l, h with
  | [c0, c1, c2, c3, c4], _ => exact ⟨c0, c1, c2, c3, c4, rfl⟩

end Go.Proofs.Ytkhphkfbjbhgaaa

-- Open3b
namespace Go.Proofs.Ytkhphkfbjbhgaaa
open Go.ChangeShapes Go.WideShapes Go.ChangeAt Go.RowKit Go.Deep
set_option maxRecDepth 100000

theorem array7 {α : Type} {cs : Array α} (h : cs.size = 7) : ∃ c0 c1 c2 c3 c4 c5 c6, cs = #[c0, c1, c2, c3, c4, c5, c6] := by
  obtain ⟨l⟩ := cs
  match l, h with
  | [c0, c1, c2, c3, c4, c5, c6], _ => exact ⟨c0, c1, c2, c3, c4, c5, c6, rfl⟩

section
variable {H : Type} {enc : TypeId × Value → H} {W : World}

theorem trod_two {P : Program} {t ty : TypeId} {f0 f1 : Field} {fuel : Nat} {c0 c1 : Value} {y : DataW H × List MemPlace} (ht : P.underlying t = some (.struct #[f0, f1])) (e0 : f0.type = ty) (e1 : f1.type = ty) (o0 : f0.offset = 0) (o1 : f1.offset = 1) (hi : P.underlying ty = some (.int .i64)) (hc : P.cellsOf ty = 1)
    (h : DataW.trod enc P W 0 (fun _ => true) true fuel t [c0, c1] = some y) : ∃ a b : Int, c0 = .int .i64 a ∧ c1 = .int .i64 b := by
  obtain ⟨xs, n, _, _, _, hxl, hx⟩ := DataW.trod_struct ht h
  match xs, hxl with
  | [y0, y1], _ =>
    have g0 := hx 0 _ rfl
    have g1 := hx 1 _ rfl
    simp [e0, e1, o0, o1, hc] at g0 g1
    obtain ⟨a, ea, _⟩ := DataW.trod_int hi g0
    obtain ⟨b, eb, _⟩ := DataW.trod_int hi g1
    simp at ea eb
    exact ⟨a, b, ea, eb⟩
theorem trod_four {P : Program} {t ty : TypeId} {f0 f1 f2 f3 : Field} {fuel : Nat} {c0 c1 c2 c3 : Value} {y : DataW H × List MemPlace} (ht : P.underlying t = some (.struct #[f0, f1, f2, f3])) (e0 : f0.type = ty) (e1 : f1.type = ty) (e2 : f2.type = ty) (e3 : f3.type = ty) (o0 : f0.offset = 0) (o1 : f1.offset = 1) (o2 : f2.offset = 2) (o3 : f3.offset = 3) (hi : P.underlying ty = some (.int .i64)) (hc : P.cellsOf ty = 1)
    (h : DataW.trod enc P W 0 (fun _ => true) true fuel t [c0, c1, c2, c3] = some y) : ∃ a b c d : Int, c0 = .int .i64 a ∧ c1 = .int .i64 b ∧ c2 = .int .i64 c ∧ c3 = .int .i64 d := by
  obtain ⟨xs, n, _, _, _, hxl, hx⟩ := DataW.trod_struct ht h
  match xs, hxl with
  | [y0, y1, y2, y3], _ =>
    have g0 := hx 0 _ rfl
    have g1 := hx 1 _ rfl
    have g2 := hx 2 _ rfl
    have g3 := hx 3 _ rfl
    simp [e0, e1, e2, e3, o0, o1, o2, o3, hc] at g0 g1 g2 g3
    obtain ⟨a, ea, _⟩ := DataW.trod_int hi g0
    obtain ⟨b, eb, _⟩ := DataW.trod_int hi g1
    obtain ⟨c, ec, _⟩ := DataW.trod_int hi g2
    obtain ⟨d, ed, _⟩ := DataW.trod_int hi g3
    simp at ea eb ec ed
    exact ⟨a, b, c, d, ea, eb, ec, ed⟩

end

end Go.Proofs.Ytkhphkfbjbhgaaa
