/-
  How the arguments of chapter 3's laws are opened: a kernel that came in is three lists and two numbers. No conditions.
-/
import Derived.Test.YtaemegkdmbhpnaaLaw
import Derived.Test.YtaemegkdmbhpnaaKer3
import Derived.Lib.SmallJoins
import Derived.Deep.Grids
namespace Go.Proofs.Ytaemegkdmbhpnaa
open Go.ChangeShapes Go.WideShapes Go.ChangeAt Go.RowKit Go.Deep
set_option maxRecDepth 100000

section
variable {H : Type} {enc : TypeId × Value → H} {P : Program} {W : World}

theorem plain_addr {x : Addr} {u : Value} (h : W.cell? x = some u) : x.spot = none := World.cell?_spot h

theorem open_isl {t e : TypeId} {fuel : Nat} {v : Value} {y : DataW H × List MemPlace} (ht : P.underlying t = some (.slice e)) (he : P.underlying e = some (.int .i64)) (hc : P.cellsOf e = 1)
    (h : DataW.trod enc P W 0 (fun _ => true) true fuel t [v] = some y) :
    ∃ A n c xs, v = .slice A n c ∧ n ≤ c ∧ c ≤ maxLen ∧ (A = none → c = 0) ∧ xs.length = n ∧ Sl W 0 W.heap.size A n (fun k => .int .i64 (gi xs k)) := by
  rcases open_slice1 ht hc h with ⟨hcs, _⟩ | ⟨a, len, cap, m, n, V, D, Pl, hcs, _, hl, hm, hmm, _, hx⟩
  · simp at hcs
    subst hcs
    exact ⟨none, 0, 0, [], rfl, Nat.le_refl _, Nat.zero_le _, fun _ => rfl, rfl, Sl.nil⟩
  · simp at hcs hmm
    subst hcs hmm
    have each : ∀ i, i < m → ∃ z : Int, V i = .int .i64 z := fun i hi => by
      obtain ⟨z, e0, _⟩ := DataW.trod_int he (hx i hi).2
      exact ⟨z, by simpa using e0⟩
    obtain ⟨Z, hZ⟩ := choose_lt each
    refine ⟨some a, len, m, (List.range len).map Z, rfl, hl, hm, fun h => by simp at h, by simp, fun k hk => ?_⟩
    have hck := (hx k (by omega)).1
    obtain ⟨b, off, spot⟩ := a
    have hspot : spot = none := by simpa [Addr.add] using plain_addr (hx 0 (by omega)).1
    subst hspot
    rw [add_plain] at hck
    refine ⟨b, off, rfl, Nat.zero_le _, World.block_lt_of_cell? _ _ hck, ?_⟩
    rw [hck, hZ k (by omega)]
    show _ = some (Value.int .i64 (gi _ k))
    rw [gi_lt _ k (by simpa using hk)]
    simp

theorem open_bsl {t e : TypeId} {fuel : Nat} {v : Value} {y : DataW H × List MemPlace} (ht : P.underlying t = some (.slice e)) (he : P.underlying e = some .bool) (hc : P.cellsOf e = 1)
    (h : DataW.trod enc P W 0 (fun _ => true) true fuel t [v] = some y) :
    ∃ A n c xs, v = .slice A n c ∧ n ≤ c ∧ c ≤ maxLen ∧ (A = none → c = 0) ∧ xs.length = n ∧ Sl W 0 W.heap.size A n (fun k => .bool (gb xs k)) := by
  rcases open_bools ht he hc h with ⟨hcs, _⟩ | ⟨a, len, cap, B, hcs, _, hl, hm, _, hx⟩
  · simp at hcs
    subst hcs
    exact ⟨none, 0, 0, [], rfl, Nat.le_refl _, Nat.zero_le _, fun _ => rfl, rfl, Sl.nil⟩
  · simp at hcs
    subst hcs
    refine ⟨some a, len, cap, (List.range len).map B, rfl, hl, hm, fun h => by simp at h, by simp, fun k hk => ?_⟩
    have hck := hx k (by omega)
    obtain ⟨b, off, spot⟩ := a
    have hspot : spot = none := by simpa [Addr.add] using plain_addr (hx 0 (by omega))
    subst hspot
    rw [add_plain] at hck
    refine ⟨b, off, rfl, Nat.zero_le _, World.block_lt_of_cell? _ _ hck, ?_⟩
    rw [hck]
    show _ = some (Value.bool (gb _ k))
    rw [gb_lt _ k (by simpa using hk)]
    simp

/-- a slice of structs of m numbers -/
theorem open_ssl {t e : TypeId} {fuel m : Nat} {fs : Array Field} {v : Value} {y : DataW H × List MemPlace} (ht : P.underlying t = some (.slice e)) (he : P.underlying e = some (.struct fs)) (hc : P.cellsOf e = m)
    (hfs : ∀ j, j < m → ∃ f, fs[j]? = some f ∧ f.offset = j ∧ P.cellsOf f.type = 1 ∧ P.underlying f.type = some (.int .i64))
    (h : DataW.trod enc P W 0 (fun _ => true) true fuel t [v] = some y) :
    ∃ A n c xs, v = .slice A n c ∧ n ≤ c ∧ c ≤ maxLen ∧ (A = none → c = 0) ∧ xs.length = n * m ∧ Sl W 0 W.heap.size A (n * m) (fun k => .int .i64 (gi xs k)) := by
  rcases open_slice ht h with ⟨hcs, _⟩ | ⟨a, len, cap, mm, n, D, Pl, hcs, _, hl, hm, hmm, _, hx⟩
  · simp at hcs
    subst hcs
    exact ⟨none, 0, 0, [], rfl, Nat.le_refl _, Nat.zero_le _, fun _ => rfl, by simp, fun k hk => by omega⟩
  · simp at hcs hmm
    subst hcs hmm
    rw [hc] at hx
    by_cases hm0 : m = 0
    · subst hm0
      exact ⟨some a, len, mm, [], rfl, hl, hm, fun h => by simp at h, by simp, fun k hk => by omega⟩
    have each : ∀ k, k < len * m → ∃ z : Int, W.cell? (a.add k) = some (.int .i64 z) := fun k hk => by
      have hd : k / m < len := Nat.div_lt_of_lt_mul (by rw [Nat.mul_comm]; exact hk)
      have hr : k % m < m := Nat.mod_lt _ (by omega)
      obtain ⟨cs', h1, h2⟩ := hx (k / m) (by omega)
      obtain ⟨_, hlen, hcell⟩ := World.cells?_some h1
      obtain ⟨xs, nn, _, _, _, _, hf⟩ := DataW.trod_struct he h2
      obtain ⟨f, f1, f2, f3, f4⟩ := hfs _ hr
      have g := hf _ f f1
      rw [f2, f3] at g
      have hxs : ∃ z, xs[k % m]? = some z := by
        cases hz : xs[k % m]? with
        | some z => exact ⟨z, rfl⟩
        | none =>
          rename_i hxl
          exact absurd hz (by rw [List.getElem?_eq_getElem (by rw [hxl]; exact (Array.getElem?_eq_some_iff.1 f1).1)]; simp)
      obtain ⟨z, hz⟩ := hxs
      rw [hz] at g
      obtain ⟨u, e0, _⟩ := DataW.trod_int f4 g
      have hcc := hcell (k % m) hr
      have e1 : cs'[k % m]? = some (.int .i64 u) := by
        have : ((cs'.drop (k % m)).take 1)[0]? = some (.int .i64 u) := by rw [e0]; rfl
        rw [List.getElem?_take, if_pos (by omega), List.getElem?_drop] at this
        simpa using this
      refine ⟨u, ?_⟩
      rw [add_add, show k / m * m + k % m = k by rw [Nat.mul_comm]; exact Nat.div_add_mod k m] at hcc
      rw [hcc, e1]
    obtain ⟨Z, hZ⟩ := choose_lt each
    refine ⟨some a, len, mm, (List.range (len * m)).map Z, rfl, hl, hm, fun h => by simp at h, by simp, fun k hk => ?_⟩
    have hck := hZ k hk
    obtain ⟨b, off, spot⟩ := a
    have hspot : spot = none := by simpa [Addr.add] using plain_addr (hZ 0 (by omega))
    subst hspot
    rw [add_plain] at hck
    refine ⟨b, off, rfl, Nat.zero_le _, World.block_lt_of_cell? _ _ hck, ?_⟩
    rw [hck]
    show _ = some (Value.int .i64 (gi _ k))
    rw [gi_lt _ k (by simpa using hk)]
    simp
end

theorem array5k {α : Type} {cs : Array α} (h : cs.size = 5) : ∃ c0 c1 c2 c3 c4, cs = #[c0, c1, c2, c3, c4] := by
  obtain ⟨l⟩ := cs
  match l, h with
  | [c0, c1, c2, c3, c4], _ => exact ⟨c0, c1, c2, c3, c4, rfl⟩

/-- a kernel that came in -/
theorem open_kernel {H : Type} {enc : TypeId × Value → H} {W : World} {r : Reach} {b0 : Nat} {v : Value} {d : DataW H} {ps : List MemPlace}
    (hval : Value.okWide Try.prog W r b0 26 v) (h : DataW.Trod enc Try.prog W 0 (fun _ => true) true 26 v d ps) :
    ∃ A1 n1 c1 A2 n2 c2 A3 n3 c3 K, v = .agg #[.slice A1 n1 c1, .slice A2 n2 c2, .slice A3 n3 c3, .int .i64 K.tick, .int .i64 K.run] ∧ KRead W 0 W.heap.size A1 n1 A2 n2 A3 n3 K ∧ (A1 = none → c1 = 0) ∧ n1 ≤ maxLen ∧ n2 ≤ maxLen ∧ n3 ≤ maxLen := by
  obtain ⟨cs, rfl, hsz⟩ := okWide_struct Try.underlying26 hval
  obtain ⟨c0, c1, c2, c3, c4, rfl⟩ := array5k (hsz.trans (by kernel_rfl))
  obtain ⟨fuel, hf⟩ := h
  obtain ⟨xs, n, _, _, _, hxl, hx⟩ := DataW.trod_struct Try.underlying26 hf
  match xs, hxl with
  | [y0, y1, y2, y3, y4], _ =>
    have k0 : Try.prog.cellsOf 22 = 1 := by kernel_rfl
    have k1 : Try.prog.cellsOf 23 = 1 := by kernel_rfl
    have k2 : Try.prog.cellsOf 24 = 1 := by kernel_rfl
    have k3 : Try.prog.cellsOf 2 = 1 := by kernel_rfl
    have g0 := hx 0 _ rfl
    have g1 := hx 1 _ rfl
    have g2 := hx 2 _ rfl
    have g3 := hx 3 _ rfl
    have g4 := hx 4 _ rfl
    simp [Value.cells, k0, k1, k2, k3] at g0 g1 g2 g3 g4
    obtain ⟨A1, n1, c1', os, rfl, _, m1, a1, l1, s1⟩ := open_isl Try.underlying22 Try.underlying2 k3 g0
    obtain ⟨A2, n2, c2', al, rfl, _, m2, a2, l2, s2⟩ := open_bsl Try.underlying23 Try.underlying4 (by kernel_rfl) g1
    obtain ⟨A3, n3, c3', ac, rfl, _, m3, a3, l3, s3⟩ := open_ssl (m := 4) Try.underlying24 Try.underlying192 (by kernel_rfl) (fun j hj => by
      match j, hj with
      | 0, _ => exact ⟨_, rfl, rfl, k3, Try.underlying2⟩
      | 1, _ => exact ⟨_, rfl, rfl, k3, Try.underlying2⟩
      | 2, _ => exact ⟨_, rfl, rfl, k3, Try.underlying2⟩
      | 3, _ => exact ⟨_, rfl, rfl, k3, Try.underlying2⟩) g2
    obtain ⟨t, e3, _⟩ := DataW.trod_int Try.underlying2 g3
    obtain ⟨r, e4, _⟩ := DataW.trod_int Try.underlying2 g4
    simp at e3 e4
    subst e3 e4
    exact ⟨A1, n1, c1', A2, n2, c2', A3, n3, c3', ⟨os, al, ac, t, r⟩, rfl, ⟨⟨l1, l2, l3⟩, s1, s2, s3⟩, a1, by omega, by omega, by omega⟩

end Go.Proofs.Ytaemegkdmbhpnaa
