/-
  FnExactDoTick holds: whatever the kernel and the act that came in, the program's DoTick answers as the model's, notes and all. No conditions.
-/
import Derived.Test.YtlallklfilmcnaaGreatRows
import Derived.Test.YtlallklfilmcnaaGreatBase
import Derived.ChangeOld
import Derived.Test.YtlallklfilmcnaaGreatKer3
import Derived.Lib.SmallJoins
import Derived.Deep.Grids
import Derived.Test.YtlallklfilmcnaaGreatDoTickW

-- Law
namespace Go.Proofs.YtlallklfilmcnaaGreat
open Go.ChangeShapes Go.WideShapes Go.ChangeAt Go.RowKit
set_option maxRecDepth 100000

theorem own : ownKnob Tryz.prog.godebug = none := by kernel_rfl
theorem laidOut : laidOutB Tryz.prog = true := by kernel_rfl

theorem trodAll_below {H : Type} {enc : TypeId × Value → H} {P : Program} (hl : laidOutB P = true) {W W' : World} (hb : Below W.heap.size W W') (ts : List TypeId) :
    ∀ (vs : List Value) (ds : List (DataW H)) (ps : List MemPlace), ts.all (fun t => P.readableRec t && decide (t < P.types.size)) = true →
      DataW.TrodAll enc P W 0 (fun _ => true) true ts vs ds ps → (∀ x ∈ ps, x.block < W.heap.size) →
      DataW.TrodAll enc P W' 0 (fun b => decide (b < W.heap.size)) true ts vs ds ps := by
  induction ts with
  | nil =>
    intro vs ds ps _ h _
    obtain ⟨rfl, rfl, rfl⟩ := trodAll_nil h
    exact trodAll_mk0
  | cons t ts ih =>
    intro vs ds ps ht h hlt
    obtain ⟨v, vs', d, ds', p, q, rfl, rfl, rfl, h0, r0⟩ := trodAll_cons h
    rw [List.all_cons, Bool.and_eq_true, Bool.and_eq_true] at ht
    exact trodAll_cons_mk (Below.trod hl ht.1.1 (of_decide_eq_true ht.1.2) h0 hb (fun x hx => hlt x (List.mem_append_left _ hx)))
      (ih vs' ds' q ht.2 r0 (fun x hx => hlt x (List.mem_append_right _ hx)))

/-- the call returned true and nothing that was there has turned: the law's post -/
theorem law_post {H : Type} {enc : TypeId × Value → H} {fn : Func} {S : ChangeSpec} {W : World} {args : Array Value} {ds gs : List (DataW H)} {before : List MemPlace} {K : FuncId}
    (hW : DataW.Whole enc Tryz.prog fn.params.toList S.vars false W args.toList ds gs before) (hv : S.vars = [])
    (hfn : S.fn H (ds ++ gs) = { results := [.lit (.bool true)], args := ds }) (hres : fn.resultTypes = #[4])
    (hts : fn.params.toList.all (fun t => Tryz.prog.readableRec t && decide (t < Tryz.prog.types.size)) = true)
    (walk : Calls Tryz.prog K args W fun e w' => e = .returned (.bool true) ∧ Below W.heap.size W w') :
    Calls Tryz.prog K args W fun e W' => ∃ v, e = .returned v ∧ S.post enc Tryz.prog fn false true false false W args v W' := by
  refine walk.mono fun e W' ⟨he, bel⟩ => ?_
  subst he
  have hW' := hW
  obtain ⟨p, q, hA, hV, rfl, hfz, hnd⟩ := hW
  have hlt : ∀ x ∈ p ++ q, x.block < W.heap.size := fun x hx => hW'.lt x hx
  rw [hv] at hV
  obtain ⟨rfl, rfl⟩ := trodVars_none hV
  refine ⟨_, rfl, ds, [], p ++ [], [], p, [], hW', ?_, ?_, ?_, bel.frame _, fun h => by cases h⟩
  · rw [hfn, hres]
    exact trodAll_mk1 (shut_bool Tryz.underlying4 _)
  · rw [hfn]
    exact trodAll_below laidOut bel _ _ _ _ hts hA (fun x hx => hlt x (List.mem_append_left _ hx))
  · rw [hfn, hv]
    rfl

/-- a slice of int64 that came in: it reads as a list of numbers that fit -/
theorem open_i64s {H : Type} {enc : TypeId × Value → H} {W : World} {r : Reach} {b0 : Nat} {v : Value} {d : DataW H} {ps : List MemPlace}
    (hval : Value.okWide Tryz.prog W r b0 24 v) (h : DataW.Trod enc Tryz.prog W 0 (fun _ => true) true 24 v d ps) :
    ∃ A n c xs, v = .slice A n c ∧ n ≤ c ∧ xs.length = n ∧ Sl W 0 W.heap.size A n (fun k => .int .i64 (gi xs k)) ∧ ∀ k, -9223372036854775808 ≤ gi xs k ∧ gi xs k ≤ 9223372036854775807 := by
  obtain ⟨a0, len0, cap0, rfl⟩ := okWide_slice Tryz.underlying24 hval
  obtain ⟨fuel, hf⟩ := h
  rcases open_ints Tryz.underlying24 Tryz.underlying2 (by kernel_rfl) hf with ⟨hcs, _⟩ | ⟨x, l, c, zs, hcs, _, hl, hm, hz, _, hcell, hwz⟩
  · simp [Value.cells] at hcs
    obtain ⟨rfl, rfl, rfl⟩ := hcs
    exact ⟨none, 0, 0, [], rfl, Nat.le_refl _, rfl, Sl.nil, fun k => by simp [gi]⟩
  · simp [Value.cells] at hcs
    obtain ⟨rfl, rfl, rfl⟩ := hcs
    simp only [if_true] at hz
    have hg : ∀ k, k < len0 → gi (zs.take len0) k = gi zs k := fun k hk => by simp [gi, hk]
    refine ⟨some x, len0, cap0, zs.take len0, rfl, hl, by simp; omega, ?_, fun k => ?_⟩
    · intro k hk
      obtain ⟨b, off, spot⟩ := x
      have hspot : spot = none := by simpa [Addr.add] using World.cell?_spot (hcell 0 (by omega))
      subst hspot
      have hc := hcell k (by omega)
      rw [add_plain] at hc
      have hbl := World.block_lt_of_cell? _ _ hc
      refine ⟨b, off, rfl, Nat.zero_le _, hbl, ?_⟩
      rw [hc]
      show _ = some (Value.int .i64 (gi (zs.take len0) k))
      rw [hg k hk]
      rfl
    · by_cases hk : k < len0
      · rw [hg k hk, gi_lt zs k (by omega)]
        have := hwz _ (List.getElem_mem (show k < zs.length by omega))
        have h1 : IntKind.i64.min = -9223372036854775808 := rfl
        have h2 : IntKind.i64.max = 9223372036854775807 := rfl
        simp only [Lit.wf, Bool.and_eq_true, decide_eq_true_eq, h1, h2] at this
        exact this
      · have : gi (zs.take len0) k = 0 := by unfold gi; rw [List.getD_eq_getElem?_getD, List.getElem?_eq_none (by simp; omega)]; rfl
        rw [this]
        decide

/-- an int64 that came in -/
theorem open_i64 {H : Type} {enc : TypeId × Value → H} {W : World} {r : Reach} {b0 : Nat} {v : Value} {d : DataW H} {ps : List MemPlace}
    (hval : Value.okWide Tryz.prog W r b0 2 v) (h : DataW.Trod enc Tryz.prog W 0 (fun _ => true) true 2 v d ps) :
    ∃ n, v = .int .i64 n ∧ -9223372036854775808 ≤ n ∧ n ≤ 9223372036854775807 := by
  obtain ⟨n, rfl, _, _, hw⟩ := open_int Tryz.underlying2 hval h
  have h1 : IntKind.i64.min = -9223372036854775808 := rfl
  have h2 : IntKind.i64.max = 9223372036854775807 := rfl
  simp only [Lit.wf, Bool.and_eq_true, decide_eq_true_eq, h1, h2] at hw
  exact ⟨n, rfl, hw.1, hw.2⟩

end Go.Proofs.YtlallklfilmcnaaGreat

-- Open3
namespace Go.Proofs.YtlallklfilmcnaaGreat
open Go.ChangeShapes Go.WideShapes Go.ChangeAt Go.RowKit Go.Deep
set_option maxRecDepth 100000

section
variable {H : Type} {enc : TypeId × Value → H} {P : Program} {W : World}

theorem plain_addr {x : Addr} {u : Value} (h : W.cell? x = some u) : x.spot = none := World.cell?_spot h

theorem open_isl {t e : TypeId} {fuel : Nat} {v : Value} {y : DataW H × List MemPlace} (ht : P.underlying t = some (.slice e)) (he : P.underlying e = some (.int .i64)) (hc : P.cellsOf e = 1)
    (h : DataW.trod enc P W 0 (fun _ => true) true fuel t [v] = some y) :
    ∃ A n c xs, v = .slice A n c ∧ n ≤ c ∧ c ≤ maxLen ∧ (A = none → c = 0) ∧ xs.length = n ∧ Sl W 0 W.heap.size A n (fun k => .int .i64 (gi xs k)) := by
  rcases open_slice1 ht hc h with ⟨hcs, _⟩ | ⟨a, len, cap, m, n, V, D, Pl, hcs, _, hl, hm, hmm, _, hx⟩
  · simp at hcs
    subst hcs
    exact ⟨none, 0, 0, [], rfl, Nat.le_refl _, Nat.zero_le _, fun _ => rfl, rfl, Sl.nil⟩
  · simp at hcs hmm
    subst hcs hmm
    have each : ∀ i, i < m → ∃ z : Int, V i = .int .i64 z := fun i hi => by
      obtain ⟨z, e0, _⟩ := DataW.trod_int he (hx i hi).2
      exact ⟨z, by simpa using e0⟩
    obtain ⟨Z, hZ⟩ := choose_lt each
    refine ⟨some a, len, m, (List.range len).map Z, rfl, hl, hm, fun h => by simp at h, by simp, fun k hk => ?_⟩
    have hck := (hx k (by omega)).1
    obtain ⟨b, off, spot⟩ := a
    have hspot : spot = none := by simpa [Addr.add] using plain_addr (hx 0 (by omega)).1
    subst hspot
    rw [add_plain] at hck
    refine ⟨b, off, rfl, Nat.zero_le _, World.block_lt_of_cell? _ _ hck, ?_⟩
    rw [hck, hZ k (by omega)]
    show _ = some (Value.int .i64 (gi _ k))
    rw [gi_lt _ k (by simpa using hk)]
    simp

theorem open_bsl {t e : TypeId} {fuel : Nat} {v : Value} {y : DataW H × List MemPlace} (ht : P.underlying t = some (.slice e)) (he : P.underlying e = some .bool) (hc : P.cellsOf e = 1)
    (h : DataW.trod enc P W 0 (fun _ => true) true fuel t [v] = some y) :
    ∃ A n c xs, v = .slice A n c ∧ n ≤ c ∧ c ≤ maxLen ∧ (A = none → c = 0) ∧ xs.length = n ∧ Sl W 0 W.heap.size A n (fun k => .bool (gb xs k)) := by
  rcases open_bools ht he hc h with ⟨hcs, _⟩ | ⟨a, len, cap, B, hcs, _, hl, hm, _, hx⟩
  · simp at hcs
    subst hcs
    exact ⟨none, 0, 0, [], rfl, Nat.le_refl _, Nat.zero_le _, fun _ => rfl, rfl, Sl.nil⟩
  · simp at hcs
    subst hcs
    refine ⟨some a, len, cap, (List.range len).map B, rfl, hl, hm, fun h => by simp at h, by simp, fun k hk => ?_⟩
    have hck := hx k (by omega)
    obtain ⟨b, off, spot⟩ := a
    have hspot : spot = none := by simpa [Addr.add] using plain_addr (hx 0 (by omega))
    subst hspot
    rw [add_plain] at hck
    refine ⟨b, off, rfl, Nat.zero_le _, World.block_lt_of_cell? _ _ hck, ?_⟩
    rw [hck]
    show _ = some (Value.bool (gb _ k))
    rw [gb_lt _ k (by simpa using hk)]
    simp

/-- a slice of structs of m numbers -/
theorem open_ssl {t e : TypeId} {fuel m : Nat} {fs : Array Field} {v : Value} {y : DataW H × List MemPlace} (ht : P.underlying t = some (.slice e)) (he : P.underlying e = some (.struct fs)) (hc : P.cellsOf e = m)
    (hfs : ∀ j, j < m → ∃ f, fs[j]? = some f ∧ f.offset = j ∧ P.cellsOf f.type = 1 ∧ P.underlying f.type = some (.int .i64))
    (h : DataW.trod enc P W 0 (fun _ => true) true fuel t [v] = some y) :
    ∃ A n c xs, v = .slice A n c ∧ n ≤ c ∧ c ≤ maxLen ∧ (A = none → c = 0) ∧ xs.length = n * m ∧ Sl W 0 W.heap.size A (n * m) (fun k => .int .i64 (gi xs k)) := by
  rcases open_slice ht h with ⟨hcs, _⟩ | ⟨a, len, cap, mm, n, D, Pl, hcs, _, hl, hm, hmm, _, hx⟩
  · simp at hcs
    subst hcs
    exact ⟨none, 0, 0, [], rfl, Nat.le_refl _, Nat.zero_le _, fun _ => rfl, by simp, fun k hk => by omega⟩
  · simp at hcs hmm
    subst hcs hmm
    rw [hc] at hx
    by_cases hm0 : m = 0
    · subst hm0
      exact ⟨some a, len, mm, [], rfl, hl, hm, fun h => by simp at h, by simp, fun k hk => by omega⟩
    have each : ∀ k, k < len * m → ∃ z : Int, W.cell? (a.add k) = some (.int .i64 z) := fun k hk => by
      have hd : k / m < len := Nat.div_lt_of_lt_mul (by rw [Nat.mul_comm]; exact hk)
      have hr : k % m < m := Nat.mod_lt _ (by omega)
      obtain ⟨cs', h1, h2⟩ := hx (k / m) (by omega)
      obtain ⟨_, hlen, hcell⟩ := World.cells?_some h1
      obtain ⟨xs, nn, _, _, _, _, hf⟩ := DataW.trod_struct he h2
      obtain ⟨f, f1, f2, f3, f4⟩ := hfs _ hr
      have g := hf _ f f1
      rw [f2, f3] at g
      have hxs : ∃ z, xs[k % m]? = some z := by
        cases hz : xs[k % m]? with
        | some z => exact ⟨z, rfl⟩
        | none =>
          rename_i hxl
          exact absurd hz (by rw [List.getElem?_eq_getElem (by rw [hxl]; exact (Array.getElem?_eq_some_iff.1 f1).1)]; simp)
      obtain ⟨z, hz⟩ := hxs
      rw [hz] at g
      obtain ⟨u, e0, _⟩ := DataW.trod_int f4 g
      have hcc := hcell (k % m) hr
      have e1 : cs'[k % m]? = some (.int .i64 u) := by
        have : ((cs'.drop (k % m)).take 1)[0]? = some (.int .i64 u) := by rw [e0]; rfl
        rw [List.getElem?_take, if_pos (by omega), List.getElem?_drop] at this
        simpa using this
      refine ⟨u, ?_⟩
      rw [add_add, show k / m * m + k % m = k by rw [Nat.mul_comm]; exact Nat.div_add_mod k m] at hcc
      rw [hcc, e1]
    obtain ⟨Z, hZ⟩ := choose_lt each
    refine ⟨some a, len, mm, (List.range (len * m)).map Z, rfl, hl, hm, fun h => by simp at h, by simp, fun k hk => ?_⟩
    have hck := hZ k hk
    obtain ⟨b, off, spot⟩ := a
    have hspot : spot = none := by simpa [Addr.add] using plain_addr (hZ 0 (by omega))
    subst hspot
    rw [add_plain] at hck
    refine ⟨b, off, rfl, Nat.zero_le _, World.block_lt_of_cell? _ _ hck, ?_⟩
    rw [hck]
    show _ = some (Value.int .i64 (gi _ k))
    rw [gi_lt _ k (by simpa using hk)]
    simp
end

theorem array5 {α : Type} {cs : Array α} (h : cs.size = 5) : ∃ c0 c1 c2 c3 c4, cs = #[c0, c1, c2, c3, c4] := by
  obtain ⟨l⟩ := cs
  match l, h with
  | [c0, c1, c2, c3, c4], _ => exact ⟨c0, c1, c2, c3, c4, rfl⟩

/-- a kernel that came in -/
theorem open_kernel {H : Type} {enc : TypeId × Value → H} {W : World} {r : Reach} {b0 : Nat} {v : Value} {d : DataW H} {ps : List MemPlace}
    (hval : Value.okWide Tryz.prog W r b0 72 v) (h : DataW.Trod enc Tryz.prog W 0 (fun _ => true) true 72 v d ps) :
    ∃ A1 n1 c1 A2 n2 c2 A3 n3 c3 K, v = .agg #[.slice A1 n1 c1, .slice A2 n2 c2, .slice A3 n3 c3, .int .i64 K.tick, .int .i64 K.run] ∧ KRead W 0 W.heap.size A1 n1 A2 n2 A3 n3 K ∧ (A1 = none → c1 = 0) ∧ n1 ≤ maxLen ∧ n2 ≤ maxLen ∧ n3 ≤ maxLen := by
  obtain ⟨cs, rfl, hsz⟩ := okWide_struct Tryz.underlying72 hval
  obtain ⟨c0, c1, c2, c3, c4, rfl⟩ := array5 (hsz.trans (by kernel_rfl))
  obtain ⟨fuel, hf⟩ := h
  obtain ⟨xs, n, _, _, _, hxl, hx⟩ := DataW.trod_struct Tryz.underlying72 hf
  match xs, hxl with
  | [y0, y1, y2, y3, y4], _ =>
    have k0 : Tryz.prog.cellsOf 24 = 1 := by kernel_rfl
    have k1 : Tryz.prog.cellsOf 25 = 1 := by kernel_rfl
    have k2 : Tryz.prog.cellsOf 70 = 1 := by kernel_rfl
    have k3 : Tryz.prog.cellsOf 2 = 1 := by kernel_rfl
    have g0 := hx 0 _ rfl
    have g1 := hx 1 _ rfl
    have g2 := hx 2 _ rfl
    have g3 := hx 3 _ rfl
    have g4 := hx 4 _ rfl
    simp [Value.cells, k0, k1, k2, k3] at g0 g1 g2 g3 g4
    obtain ⟨A1, n1, c1', os, rfl, _, m1, a1, l1, s1⟩ := open_isl Tryz.underlying24 Tryz.underlying2 k3 g0
    obtain ⟨A2, n2, c2', al, rfl, _, m2, a2, l2, s2⟩ := open_bsl Tryz.underlying25 Tryz.underlying4 (by kernel_rfl) g1
    obtain ⟨A3, n3, c3', ac, rfl, _, m3, a3, l3, s3⟩ := open_ssl (m := 4) Tryz.underlying70 Tryz.underlying192 (by kernel_rfl) (fun j hj => by
      match j, hj with
      | 0, _ => exact ⟨_, rfl, rfl, k3, Tryz.underlying2⟩
      | 1, _ => exact ⟨_, rfl, rfl, k3, Tryz.underlying2⟩
      | 2, _ => exact ⟨_, rfl, rfl, k3, Tryz.underlying2⟩
      | 3, _ => exact ⟨_, rfl, rfl, k3, Tryz.underlying2⟩) g2
    obtain ⟨t, e3, _⟩ := DataW.trod_int Tryz.underlying2 g3
    obtain ⟨r, e4, _⟩ := DataW.trod_int Tryz.underlying2 g4
    simp at e3 e4
    subst e3 e4
    exact ⟨A1, n1, c1', A2, n2, c2', A3, n3, c3', ⟨os, al, ac, t, r⟩, rfl, ⟨⟨l1, l2, l3⟩, s1, s2, s3⟩, a1, by omega, by omega, by omega⟩

end Go.Proofs.YtlallklfilmcnaaGreat

-- DoTick
namespace Go.Proofs.YtlallklfilmcnaaGreat
open Go.ChangeShapes Go.WideShapes Go.ChangeAt Go.RowKit Go.Deep
set_option maxRecDepth 100000

theorem array7 {α : Type} {cs : Array α} (h : cs.size = 7) : ∃ c0 c1 c2 c3 c4 c5 c6, cs = #[c0, c1, c2, c3, c4, c5, c6] := by
  obtain ⟨l⟩ := cs
  match l, h with
  | [c0, c1, c2, c3, c4, c5, c6], _ => exact ⟨c0, c1, c2, c3, c4, c5, c6, rfl⟩

section
variable {H : Type} {enc : TypeId × Value → H} {W : World}

theorem trod_two {P : Program} {t ty : TypeId} {f0 f1 : Field} {fuel : Nat} {c0 c1 : Value} {y : DataW H × List MemPlace} (ht : P.underlying t = some (.struct #[f0, f1])) (e0 : f0.type = ty) (e1 : f1.type = ty) (o0 : f0.offset = 0) (o1 : f1.offset = 1) (hi : P.underlying ty = some (.int .i64)) (hc : P.cellsOf ty = 1)
    (h : DataW.trod enc P W 0 (fun _ => true) true fuel t [c0, c1] = some y) : ∃ a b : Int, c0 = .int .i64 a ∧ c1 = .int .i64 b := by
  obtain ⟨xs, n, _, _, _, hxl, hx⟩ := DataW.trod_struct ht h
  match xs, hxl with
  | [y0, y1], _ =>
    have g0 := hx 0 _ rfl
    have g1 := hx 1 _ rfl
    simp [e0, e1, o0, o1, hc] at g0 g1
    obtain ⟨a, ea, _⟩ := DataW.trod_int hi g0
    obtain ⟨b, eb, _⟩ := DataW.trod_int hi g1
    simp at ea eb
    exact ⟨a, b, ea, eb⟩
theorem trod_four {P : Program} {t ty : TypeId} {f0 f1 f2 f3 : Field} {fuel : Nat} {c0 c1 c2 c3 : Value} {y : DataW H × List MemPlace} (ht : P.underlying t = some (.struct #[f0, f1, f2, f3])) (e0 : f0.type = ty) (e1 : f1.type = ty) (e2 : f2.type = ty) (e3 : f3.type = ty) (o0 : f0.offset = 0) (o1 : f1.offset = 1) (o2 : f2.offset = 2) (o3 : f3.offset = 3) (hi : P.underlying ty = some (.int .i64)) (hc : P.cellsOf ty = 1)
    (h : DataW.trod enc P W 0 (fun _ => true) true fuel t [c0, c1, c2, c3] = some y) : ∃ a b c d : Int, c0 = .int .i64 a ∧ c1 = .int .i64 b ∧ c2 = .int .i64 c ∧ c3 = .int .i64 d := by
  obtain ⟨xs, n, _, _, _, hxl, hx⟩ := DataW.trod_struct ht h
  match xs, hxl with
  | [y0, y1, y2, y3], _ =>
    have g0 := hx 0 _ rfl
    have g1 := hx 1 _ rfl
    have g2 := hx 2 _ rfl
    have g3 := hx 3 _ rfl
    simp [e0, e1, e2, e3, o0, o1, o2, o3, hc] at g0 g1 g2 g3
    obtain ⟨a, ea, _⟩ := DataW.trod_int hi g0
    obtain ⟨b, eb, _⟩ := DataW.trod_int hi g1
    obtain ⟨c, ec, _⟩ := DataW.trod_int hi g2
    obtain ⟨d, ed, _⟩ := DataW.trod_int hi g3
    simp at ea eb ec ed
    exact ⟨a, b, c, d, ea, eb, ec, ed⟩

/-- a call that came in -/
theorem open_call {r : Reach} {b0 : Nat} {v : Value} {d : DataW H} {ps : List MemPlace}
    (hval : Value.okWide Tryz.prog W r b0 150 v) (h : DataW.Trod enc Tryz.prog W 0 (fun _ => true) true 150 v d ps) :
    ∃ k e s t : Int, v = .agg #[.int .i64 k, .int .i64 e, .int .i64 s, .int .i64 t] := by
  obtain ⟨v0, v1, v2, v3, y0, y1, y2, y3, n, rfl, _, _, h0, h1, h2, h3⟩ := Go.Joins.open_agg4 Tryz.underlying150 (by kernel_rfl) (by kernel_rfl) hval h
  obtain ⟨u, e0, _, _⟩ := DataW.trod_int Tryz.underlying2 h0
  obtain ⟨x, e1, _, _⟩ := DataW.trod_int Tryz.underlying2 h1
  obtain ⟨g, e2, _, _⟩ := DataW.trod_int Tryz.underlying2 h2
  obtain ⟨k, e3, _, _⟩ := DataW.trod_int Tryz.underlying2 h3
  simp at e0 e1 e2 e3
  subst e0 e1 e2 e3
  exact ⟨u, x, g, k, rfl⟩

/-- an act that came in -/
theorem open_act {r : Reach} {b0 : Nat} {v : Value} {d : DataW H} {ps : List MemPlace}
    (hval : Value.okWide Tryz.prog W r b0 73 v) (h : DataW.Trod enc Tryz.prog W 0 (fun _ => true) true 73 v d ps) :
    ∃ k t : Int, v = .agg #[.int .i64 k, .int .i64 t] := by
  obtain ⟨v0, v1, y0, y1, n, rfl, _, _, h0, h1⟩ := Go.Joins.open_agg2 Tryz.underlying73 (by kernel_rfl) (by kernel_rfl) hval h
  obtain ⟨u, e0, _, _⟩ := DataW.trod_int Tryz.underlying2 h0
  obtain ⟨x, e1, _, _⟩ := DataW.trod_int Tryz.underlying2 h1
  simp at e0 e1
  subst e0 e1
  exact ⟨u, x, rfl⟩

/-- an event that came in -/
theorem open_event {r : Reach} {b0 : Nat} {v : Value} {d : DataW H} {ps : List MemPlace}
    (hval : Value.okWide Tryz.prog W r b0 152 v) (h : DataW.Trod enc Tryz.prog W 0 (fun _ => true) true 152 v d ps) :
    ∃ k a b c e s t : Int, v = .agg #[.int .i64 k, .int .i64 a, .int .i64 b, .int .i64 c, .int .i64 e, .int .i64 s, .int .i64 t] := by
  obtain ⟨cs, rfl, hsz⟩ := okWide_struct Tryz.underlying152 hval
  obtain ⟨c0, c1, c2, c3, c4, c5, c6, rfl⟩ := array7 (hsz.trans (by kernel_rfl))
  obtain ⟨fuel, hf⟩ := h
  obtain ⟨xs, n, _, _, _, hxl, hx⟩ := DataW.trod_struct Tryz.underlying152 hf
  match xs, hxl with
  | [y0, y1, y2], _ =>
    have k0 : Tryz.prog.cellsOf 2 = 1 := by kernel_rfl
    have k1 : Tryz.prog.cellsOf 73 = 2 := by kernel_rfl
    have k2 : Tryz.prog.cellsOf 150 = 4 := by kernel_rfl
    have g0 := hx 0 _ rfl
    have g1 := hx 1 _ rfl
    have g2 := hx 2 _ rfl
    simp [Value.cells, k0, k1, k2] at g0 g1 g2
    obtain ⟨k, e0, _⟩ := DataW.trod_int Tryz.underlying2 g0
    simp at e0
    obtain ⟨a, b, rfl, rfl⟩ := trod_two Tryz.underlying73 rfl rfl rfl rfl Tryz.underlying2 k0 g1
    obtain ⟨c, e, s, t, rfl, rfl, rfl, rfl⟩ := trod_four Tryz.underlying150 rfl rfl rfl rfl rfl rfl rfl rfl Tryz.underlying2 k0 g2
    subst e0
    exact ⟨k, a, b, c, e, s, t, rfl⟩
end

open Go.ChangeShapes Go.WideShapes Go.ChangeAt Go.RowKit

set_option maxRecDepth 100000 in
theorem liftedDoTick (os : Os) (started : os.Started) (H : Type) (enc : TypeId × Value → H) :
    ReturnsInHanded {} Tryz.checked os 6 .any (Rows.fnExactDoTickSpec.pre6 enc Tryz.prog Tryz.f6 Rows.fnExactDoTickRow.domain false) (Rows.fnExactDoTickSpec.post enc Tryz.prog Tryz.f6 false true false false) := by
  refine returnsInHanded_of_change (C := Tryz.checked) own started (by kernel_rfl) Tryz.func6
    (ChangeSpec.witness6 (enc := enc) (C := Tryz.checked) false ⟨#[], #[.agg #[.slice none 0 0, .slice none 0 0, .slice none 0 0, .int .i64 0, .int .i64 0], .agg #[.int .i64 0, .int .i64 0]], []⟩ 8 (by kernel_rfl) (by kernel_rfl) (by kernel_rfl) (by kernel_rfl)) ?_
  intro W base args ds gs before hval0 hW _ _
  have hval : ∀ (j : Nat) t v, Tryz.f6.params[j]? = some t → args[j]? = some v → Value.okWide Tryz.prog W .any base t v := hval0
  have hW' := hW
  obtain ⟨p, q, hA0, hV, rfl, _, _⟩ := hW
  have hA : DataW.TrodAll enc Tryz.prog W 0 (fun _ => true) true Tryz.f6.params.toList args.toList ds p := hA0
  rw [Tryz.params6] at hA hval
  obtain ⟨v0, vs0, d0, ds0, p0, q0, hargs, rfl, rfl, h0, r0⟩ := trodAll_cons hA
  obtain ⟨v1, vs1, d1, ds1, p1, q1, rfl, rfl, rfl, h1, r1⟩ := trodAll_cons r0
  obtain ⟨rfl, rfl, rfl⟩ := trodAll_nil r1
  obtain rfl : args = #[v0, v1] := by cases args; simp_all
  obtain ⟨rfl, rfl⟩ := trodVars_none hV
  obtain ⟨A1, n1, c1, A2, n2, c2, A3, n3, c3, K, rfl, hk, ha, m1, m2, m3⟩ := open_kernel (hval 0 _ v0 rfl rfl) h0
  obtain ⟨k, t, rfl⟩ := open_act (hval 1 _ v1 rfl rfl) h1
  exact law_post hW' rfl rfl (by kernel_rfl) (by kernel_rfl) (walkDoTick A1 n1 c1 A2 n2 c2 A3 n3 c3 K k t W hk m1 m2 m3)

theorem fnExactDoTick_holds : Rows.FnExactDoTickSaid :=
  OpenClaim.holds_of_wide 6 Tryz.f6 rfl rfl rfl rfl rfl rfl rfl ⟨rfl, rfl, rfl, rfl, rfl⟩ rfl rfl rfl rfl rfl (by kernel_rfl) Tryz.func6 (by kernel_rfl)
    (of_decide_eq_true (by kernel_rfl)) (by unfold Func.isWrapper; first | (rw [if_pos (by decide +kernel)]; kernel_rfl) | (rw [if_neg (by decide +kernel)]; exact ⟨rfl, rfl⟩))
    (fun os started H enc _ => liftedDoTick os started H enc)
#print axioms fnExactDoTick_holds

end Go.Proofs.YtlallklfilmcnaaGreat
