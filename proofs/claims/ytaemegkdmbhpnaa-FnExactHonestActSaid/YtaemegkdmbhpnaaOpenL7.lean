/-
  How libraries that came in are opened. No conditions.
-/
import Derived.Test.YtaemegkdmbhpnaaOpen5
import Derived.Test.YtaemegkdmbhpnaaLib7
import Derived.Deep.SlicePairs
namespace Go.Proofs.Ytaemegkdmbhpnaa
open Go.ChangeShapes Go.WideShapes Go.ChangeAt Go.RowKit Go.Deep
set_option maxRecDepth 100000

theorem array5 {cs : Array Value} (h : cs.size = 5) : ∃ a b c d e, cs = #[a, b, c, d, e] := by
  obtain ⟨l⟩ := cs
  simp at h
  match l, h with
  | [a, b, c, d, e], _ => exact ⟨a, b, c, d, e, rfl⟩
section
variable {H : Type} {enc : TypeId × Value → H} {P : Program} {W : World}
theorem open_isl7 {t e : TypeId} {fuel : Nat} {v : Value} {y : DataW H × List MemPlace} (ht : P.underlying t = some (.slice e)) (he : P.underlying e = some (.int .i64)) (hc : P.cellsOf e = 1)
    (h : DataW.trod enc P W 0 (fun _ => true) true fuel t [v] = some y) :
    ∃ A n c xs, v = .slice A n c ∧ n ≤ c ∧ c ≤ maxLen ∧ (A = none → c = 0) ∧ xs.length = n ∧ Sl W 0 W.heap.size A n (fun k => .int .i64 (gi xs k)) := by
  rcases open_slice1 ht hc h with ⟨hcs, _⟩ | ⟨a, len, cap, m, n, V, D, Pl, hcs, _, hl, hm, hmm, _, hx⟩
  · simp at hcs
    subst hcs
    exact ⟨none, 0, 0, [], rfl, Nat.le_refl _, Nat.zero_le _, fun _ => rfl, rfl, Sl.nil⟩
  · simp at hcs hmm
    subst hcs hmm
    have each : ∀ i, i < m → ∃ z : Int, V i = .int .i64 z := fun i hi => by
      obtain ⟨z, e0, _⟩ := DataW.trod_int he (hx i hi).2
      exact ⟨z, by simpa using e0⟩
    obtain ⟨Z, hZ⟩ := choose_lt each
    refine ⟨some a, len, m, (List.range len).map Z, rfl, hl, hm, fun h => by simp at h, by simp, fun k hk => ?_⟩
    have hck := (hx k (by omega)).1
    obtain ⟨b, off, spot⟩ := a
    have hspot : spot = none := by simpa [Addr.add] using plain_addr2 (hx 0 (by omega)).1
    subst hspot
    rw [add_plain] at hck
    refine ⟨b, off, rfl, Nat.zero_le _, World.block_lt_of_cell? _ _ hck, ?_⟩
    rw [hck, hZ k (by omega)]
    show _ = some (Value.int .i64 (gi _ k))
    rw [gi_lt _ k (by simpa using hk)]
    simp


theorem open_locks7 {fuel : Nat} {v : Value} {y : DataW H × List MemPlace}
    (hf : DataW.trod enc Try.prog W 0 (fun _ => true) true fuel 42 [v] = some y) :
    ∃ (A : Option Addr) (n c : Nat) (t : Nat → Int) (B : Nat → Option Addr) (d : Nat → Nat) (x : Nat → List Int), v = .slice A n c ∧ n ≤ maxLen ∧ (∀ i, i < n → (x i).length ≤ maxLen) ∧ LL W 0 W.heap.size A n t B (fun i => (x i).length) d (fun i k => gi (x i) k) := by
  rcases open_slice_pairs Try.underlying42 Try.underlying197 (by kernel_rfl) rfl rfl (by kernel_rfl) (by kernel_rfl) hf with ⟨hcs, _⟩ | ⟨a, len, cap, m, n, V0, V1, D0, D1, P0, P1, hcs, _, hl, hm, hmm, _, hx⟩
  · simp at hcs
    subst hcs
    exact ⟨none, 0, 0, fun _ => 0, fun _ => none, fun _ => 0, fun _ => [], rfl, Nat.zero_le _, fun i hi => absurd hi (Nat.not_lt_zero _), ⟨Sl.nil, fun i hi => absurd hi (Nat.not_lt_zero _)⟩⟩
  · simp at hcs
    subst hcs
    have hmc : m = cap := by simpa using hmm
    have e0 : ∀ i, i < m → ∃ z : Int, V0 i = .int .i64 z := fun i hi => by
      obtain ⟨z, e, _⟩ := DataW.trod_int Try.underlying2 (hx i hi).2.2.1
      exact ⟨z, by simpa using e⟩
    have e1 : ∀ i, i < m → ∃ z : Option Addr × Nat × List Int, V1 i = .slice z.1 z.2.2.length z.2.1 ∧ z.2.2.length ≤ maxLen ∧ Sl W 0 W.heap.size z.1 z.2.2.length (fun k => .int .i64 (gi z.2.2 k)) := fun i hi => by
      obtain ⟨A, n, c, xs, e, h1, h2, h3, h4, h5⟩ := open_isl7 Try.underlying22 Try.underlying2 (by kernel_rfl) (hx i hi).2.2.2
      subst h4
      exact ⟨(A, c, xs), e, by show xs.length ≤ maxLen; omega, h5⟩
    obtain ⟨Z0, hZ0⟩ := choose_lt e0
    obtain ⟨Z1, hZ1⟩ := choose_lt e1
    refine ⟨some a, len, cap, Z0, fun i => (Z1 i).1, fun i => (Z1 i).2.1, fun i => (Z1 i).2.2, rfl, by omega, fun i hi => (hZ1 i (by omega)).2.1, ⟨fun k hk => ?_, fun i hi => (hZ1 i (by omega)).2.2⟩⟩
    obtain ⟨b, off, spot⟩ := a
    have hi : k / 2 < m := by omega
    obtain ⟨c0, c1, _⟩ := hx (k / 2) hi
    have hspot : spot = none := by simpa [Addr.add] using World.cell?_spot (hx 0 (by omega)).1
    subst hspot
    rw [add_plain] at c0 c1
    have hb := World.block_lt_of_cell? _ _ c0
    refine ⟨b, off, rfl, Nat.zero_le _, hb, ?_⟩
    unfold pc7
    by_cases h2 : k % 2 = 0
    · rw [if_pos h2]
      rw [show off + k / 2 * 2 = off + k by omega] at c0
      rw [c0, hZ0 _ hi]
    · rw [if_neg h2]
      rw [show off + (k / 2 * 2 + 1) = off + k by omega] at c1
      rw [c1, (hZ1 _ hi).1]
theorem open_conds7 {fuel : Nat} {v : Value} {y : DataW H × List MemPlace}
    (hf : DataW.trod enc Try.prog W 0 (fun _ => true) true fuel 43 [v] = some y) :
    ∃ (A : Option Addr) (n c : Nat) (B : Nat → Option Addr) (d : Nat → Nat) (x : Nat → List Int), v = .slice A n c ∧ n ≤ maxLen ∧ (∀ i, i < n → (x i).length ≤ maxLen) ∧ CL W 0 W.heap.size A n B (fun i => (x i).length) d (fun i k => gi (x i) k) := by
  rcases open_slice1 Try.underlying43 (by kernel_rfl) hf with ⟨hcs, _⟩ | ⟨a, len, cap, m, n, V, D, Pl, hcs, _, hl, hm, hmm, _, hx⟩
  · simp at hcs
    subst hcs
    exact ⟨none, 0, 0, fun _ => none, fun _ => 0, fun _ => [], rfl, Nat.zero_le _, fun i hi => absurd hi (Nat.not_lt_zero _), ⟨Sl.nil, fun i hi => absurd hi (Nat.not_lt_zero _)⟩⟩
  · simp at hcs hmm
    subst hcs hmm
    have e1 : ∀ i, i < m → ∃ z : Option Addr × Nat × List Int, V i = .slice z.1 z.2.2.length z.2.1 ∧ z.2.2.length ≤ maxLen ∧ Sl W 0 W.heap.size z.1 z.2.2.length (fun k => .int .i64 (gi z.2.2 k)) := fun i hi => by
      obtain ⟨A, n, c, xs, e, h1, h2, h3, h4, h5⟩ := open_isl7 Try.underlying22 Try.underlying2 (by kernel_rfl) (hx i hi).2
      subst h4
      exact ⟨(A, c, xs), e, by show xs.length ≤ maxLen; omega, h5⟩
    obtain ⟨Z1, hZ1⟩ := choose_lt e1
    refine ⟨some a, len, m, fun i => (Z1 i).1, fun i => (Z1 i).2.1, fun i => (Z1 i).2.2, rfl, by omega, fun i hi => (hZ1 i (by omega)).2.1, ⟨fun k hk => ?_, fun i hi => (hZ1 i (by omega)).2.2⟩⟩
    obtain ⟨b, off, spot⟩ := a
    have c0 := (hx k (by omega)).1
    have hspot : spot = none := by simpa [Addr.add] using plain_addr2 (hx 0 (by omega)).1
    subst hspot
    rw [add_plain] at c0
    refine ⟨b, off, rfl, Nat.zero_le _, World.block_lt_of_cell? _ _ c0, ?_⟩
    rw [c0, (hZ1 _ (by omega)).1]
theorem open_lib {r : Reach} {b0 : Nat} {v : Value} {d : DataW H} {ps : List MemPlace}
    (hval : Value.okWide Try.prog W r b0 45 v) (h : DataW.Trod enc Try.prog W 0 (fun _ => true) true 45 v d ps) :
    ∃ (b1 : Int) (rs1 : List R3) (R1 : Option Addr) (rc1 : Nat) (T1 : Option Addr) (tn1 tc1 : Nat) (tx1 : Nat → Int) (L1 : Option Addr) (ln1 lc1 : Nat) (lo1 : Nat → Int) (lB1 : Nat → Option Addr) (ld1 : Nat → Nat) (lx1 : Nat → List Int) (C1 : Option Addr) (cn1 cc1 : Nat) (cB1 : Nat → Option Addr) (cd1 : Nat → Nat) (cx1 : Nat → List Int), v = .agg #[.int .i64 b1, .slice R1 rs1.length rc1, .slice T1 tn1 tc1, .slice L1 ln1 lc1, .slice C1 cn1 cc1] ∧ (rs1.length ≤ maxLen ∧ tn1 ≤ maxLen ∧ (ln1 ≤ maxLen ∧ ∀ i, i < ln1 → (lx1 i).length ≤ maxLen) ∧ (cn1 ≤ maxLen ∧ ∀ i, i < cn1 → (cx1 i).length ≤ maxLen)) ∧ LR W 0 W.heap.size R1 rs1.length (gi (fl rs1)) T1 tn1 tx1 L1 ln1 lo1 lB1 (fun i => (lx1 i).length) ld1 (fun i k => gi (lx1 i) k) C1 cn1 cB1 (fun i => (cx1 i).length) cd1 (fun i k => gi (cx1 i) k) := by
  obtain ⟨cs, rfl, hsz⟩ := okWide_struct Try.underlying45 hval
  obtain ⟨c0, c1, c2, c3, c4, rfl⟩ := array5 (hsz.trans (by kernel_rfl))
  obtain ⟨fuel, hf⟩ := h
  obtain ⟨y0, y1, y2, y3, n, hx, _, h0, h1, h2, h3⟩ := Go.Joins.trod_struct4 Try.underlying45 hf
  have k0 : Try.prog.cellsOf 40 = 2 := by kernel_rfl
  have k1 : Try.prog.cellsOf 41 = 1 := by kernel_rfl
  have k2 : Try.prog.cellsOf 42 = 1 := by kernel_rfl
  have k3 : Try.prog.cellsOf 43 = 1 := by kernel_rfl
  have k4 : Try.prog.cellsOf 2 = 1 := by kernel_rfl
  have k5 : Try.prog.cellsOf 38 = 1 := by kernel_rfl
  have g0 : DataW.trod enc Try.prog W 0 (fun _ => true) true n 40 [c0, c1] = some y0 := by simpa [Value.cells, k0] using h0
  have g1 : DataW.trod enc Try.prog W 0 (fun _ => true) true n 41 [c2] = some y1 := by simpa [Value.cells, k1] using h1
  have g2 : DataW.trod enc Try.prog W 0 (fun _ => true) true n 42 [c3] = some y2 := by simpa [Value.cells, k2] using h2
  have g3' : DataW.trod enc Try.prog W 0 (fun _ => true) true n 43 [c4] = some y3 := by simpa [Value.cells, k3] using h3
  obtain ⟨z0, z1, n', _, _, q0, q1⟩ := trod_struct2 Try.underlying40 g0
  have q0' : DataW.trod enc Try.prog W 0 (fun _ => true) true n' 2 [c0] = some z0 := by simpa [k4] using q0
  have q1' : DataW.trod enc Try.prog W 0 (fun _ => true) true n' 38 [c1] = some z1 := by simpa [k5] using q1
  obtain ⟨b, e0, _⟩ := DataW.trod_int Try.underlying2 q0'
  simp at e0
  subst e0
  obtain ⟨R, rn, rc, hs, rfl, r1, r2, r3, r4, r5⟩ := open_ssl2 (m := 3) Try.underlying38 Try.underlying234 (by kernel_rfl) (fun j hj => by
    match j, hj with
    | 0, _ => exact ⟨_, rfl, rfl, k4, Try.underlying2⟩
    | 1, _ => exact ⟨_, rfl, rfl, k4, Try.underlying2⟩
    | 2, _ => exact ⟨_, rfl, rfl, k4, Try.underlying2⟩) q1'
  obtain ⟨rs, f1, f2⟩ := fl_of rn hs r4
  obtain ⟨T, tn, tc, ts, rfl, t1, t2, t3, t4, t5⟩ := open_ssl2 (m := 5) Try.underlying41 Try.underlying202 (by kernel_rfl) (fun j hj => by
    match j, hj with
    | 0, _ => exact ⟨_, rfl, rfl, k4, Try.underlying2⟩
    | 1, _ => exact ⟨_, rfl, rfl, k4, Try.underlying2⟩
    | 2, _ => exact ⟨_, rfl, rfl, k4, Try.underlying2⟩
    | 3, _ => exact ⟨_, rfl, rfl, k4, Try.underlying2⟩
    | 4, _ => exact ⟨_, rfl, rfl, k4, Try.underlying2⟩) g1
  obtain ⟨L, ln, lc, lo, lB, ld, lx, rfl, l1, l2, l3⟩ := open_locks7 g2
  obtain ⟨C, cn, cc, cB, cd, cx, rfl, d1, d2, d3⟩ := open_conds7 g3'
  subst f1
  subst f2
  exact ⟨b, rs, R, rc, T, tn, tc, gi ts, L, ln, lc, lo, lB, ld, lx, C, cn, cc, cB, cd, cx, rfl, ⟨by omega, by omega, ⟨l1, l2⟩, d1, d2⟩, ⟨r5, t5, l3, d3⟩⟩
end

end Go.Proofs.Ytaemegkdmbhpnaa
