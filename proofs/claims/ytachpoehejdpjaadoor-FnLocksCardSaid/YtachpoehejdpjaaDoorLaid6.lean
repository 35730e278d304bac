/-
  From what a row lists of chapter 6's sentinels to where they lie. No conditions.
-/
import Derived.Test.YtachpoehejdpjaaDoorErr6
import Derived.Stop.LaidErr
namespace Go.Proofs.YtachpoehejdpjaaDoor
open Go.RowKit Go.ChangeShapes
set_option maxRecDepth 100000

theorem laid_sentinels5 {P : Program} {n0 n1 n2 n3 n4 nm : String} {text0 text1 text2 text3 text4 : List UInt8} {r : List (String × DataW Unit)} {W : World} {g0 g1 g2 g3 g4 : Nat} {ti tp te ts : TypeId} {ms : Array (String × TypeId)} {f : Field}
    (h : laidMet P ((n0, .iface nm (.ptr (.agg [.lit (.string text0)]))) :: (n1, .iface nm (.ptr (.agg [.lit (.string text1)]))) :: (n2, .iface nm (.ptr (.agg [.lit (.string text2)]))) :: (n3, .iface nm (.ptr (.agg [.lit (.string text3)]))) :: (n4, .iface nm (.ptr (.agg [.lit (.string text4)]))) :: r) W)
    (hg0 : P.globalNamed n0 = some g0) (ht0 : (P.globals[g0]?).map (·.type) = some ti) (hg1 : P.globalNamed n1 = some g1) (ht1 : (P.globals[g1]?).map (·.type) = some ti) (hg2 : P.globalNamed n2 = some g2) (ht2 : (P.globals[g2]?).map (·.type) = some ti) (hg3 : P.globalNamed n3 = some g3) (ht3 : (P.globals[g3]?).map (·.type) = some ti) (hg4 : P.globalNamed n4 = some g4) (ht4 : (P.globals[g4]?).map (·.type) = some ti)
    (hi : P.underlying ti = some (.interface ms)) (hrow : ∀ u, P.typeName? 3 u = some nm → u = tp)
    (hp : P.underlying tp = some (.pointer te)) (he : P.underlying te = some (.struct #[f])) (hft : f.type = ts) (hfo : f.offset = 0) (hs : P.underlying ts = some .string) (hc : P.cellsOf te = 1) (hcs : P.cellsOf ts = 1) :
    ∃ (a0 a1 a2 a3 a4 : Addr),
      (W.var? P n0 = some #[.iface tp (.pointer (some a0))] ∧ Blk W a0) ∧ (W.var? P n1 = some #[.iface tp (.pointer (some a1))] ∧ Blk W a1) ∧ (W.var? P n2 = some #[.iface tp (.pointer (some a2))] ∧ Blk W a2) ∧ (W.var? P n3 = some #[.iface tp (.pointer (some a3))] ∧ Blk W a3) ∧ (W.var? P n4 = some #[.iface tp (.pointer (some a4))] ∧ Blk W a4) ∧
      a0 ≠ a1 ∧ a0 ≠ a2 ∧ a0 ≠ a3 ∧ a0 ≠ a4 ∧ a1 ≠ a2 ∧ a1 ≠ a3 ∧ a1 ≠ a4 ∧ a2 ≠ a3 ∧ a2 ≠ a4 ∧ a3 ≠ a4 := by
  obtain ⟨ps, ⟨g0', t0', cs0, f0, p0, q0, hg0', ht0', hv0, hd0, ⟨g1', t1', cs1, f1, p1, q1, hg1', ht1', hv1, hd1, ⟨g2', t2', cs2, f2, p2, q2, hg2', ht2', hv2, hd2, ⟨g3', t3', cs3, f3, p3, q3, hg3', ht3', hv3, hd3, ⟨g4', t4', cs4, f4, p4, q4, hg4', ht4', hv4, hd4, _, e4⟩, e3⟩, e2⟩, e1⟩, e0⟩, hnd, hrows⟩ := h
  obtain rfl := Option.some.inj (hg0.symm.trans hg0')
  obtain rfl := Option.some.inj (ht0.symm.trans ht0')
  obtain rfl := Option.some.inj (hg1.symm.trans hg1')
  obtain rfl := Option.some.inj (ht1.symm.trans ht1')
  obtain rfl := Option.some.inj (hg2.symm.trans hg2')
  obtain rfl := Option.some.inj (ht2.symm.trans ht2')
  obtain rfl := Option.some.inj (hg3.symm.trans hg3')
  obtain rfl := Option.some.inj (ht3.symm.trans ht3')
  obtain rfl := Option.some.inj (hg4.symm.trans hg4')
  obtain rfl := Option.some.inj (ht4.symm.trans ht4')
  subst e4
  subst e3
  subst e2
  subst e1
  subst e0
  obtain ⟨l0⟩ := cs0
  obtain ⟨l1⟩ := cs1
  obtain ⟨l2⟩ := cs2
  obtain ⟨l3⟩ := cs3
  obtain ⟨l4⟩ := cs4
  have ok0 : ∀ u v, l0 = [.iface u v] → Value.okWide P W .any 0 u v := fun u v e => by
    subst e
    exact (hrows g0 0 (by simp [MemPlace.row])).2 u v (by simpa using World.var?_cell hg0' hv0 0)
  have ok1 : ∀ u v, l1 = [.iface u v] → Value.okWide P W .any 0 u v := fun u v e => by
    subst e
    exact (hrows g1 0 (by simp [MemPlace.row])).2 u v (by simpa using World.var?_cell hg1' hv1 0)
  have ok2 : ∀ u v, l2 = [.iface u v] → Value.okWide P W .any 0 u v := fun u v e => by
    subst e
    exact (hrows g2 0 (by simp [MemPlace.row])).2 u v (by simpa using World.var?_cell hg2' hv2 0)
  have ok3 : ∀ u v, l3 = [.iface u v] → Value.okWide P W .any 0 u v := fun u v e => by
    subst e
    exact (hrows g3 0 (by simp [MemPlace.row])).2 u v (by simpa using World.var?_cell hg3' hv3 0)
  have ok4 : ∀ u v, l4 = [.iface u v] → Value.okWide P W .any 0 u v := fun u v e => by
    subst e
    exact (hrows g4 0 (by simp [MemPlace.row])).2 u v (by simpa using World.var?_cell hg4' hv4 0)
  obtain ⟨a0, s0, rfl, hc0, hs0, hz0, rfl⟩ := errorString_of_trod hi hrow hp he hft hfo hs hc hcs hd0 ok0
  obtain ⟨a1, s1, rfl, hc1, hs1, hz1, rfl⟩ := errorString_of_trod hi hrow hp he hft hfo hs hc hcs hd1 ok1
  obtain ⟨a2, s2, rfl, hc2, hs2, hz2, rfl⟩ := errorString_of_trod hi hrow hp he hft hfo hs hc hcs hd2 ok2
  obtain ⟨a3, s3, rfl, hc3, hs3, hz3, rfl⟩ := errorString_of_trod hi hrow hp he hft hfo hs hc hcs hd3 ok3
  obtain ⟨a4, s4, rfl, hc4, hs4, hz4, rfl⟩ := errorString_of_trod hi hrow hp he hft hfo hs hc hcs hd4 ok4
  have b0 : Blk W a0 := (hrows a0.block a0.off (by simp [MemPlace.row])).1
  have b1 : Blk W a1 := (hrows a1.block a1.off (by simp [MemPlace.row])).1
  have b2 : Blk W a2 := (hrows a2.block a2.off (by simp [MemPlace.row])).1
  have b3 : Blk W a3 := (hrows a3.block a3.off (by simp [MemPlace.row])).1
  have b4 : Blk W a4 := (hrows a4.block a4.off (by simp [MemPlace.row])).1
  simp [MemPlace.row] at hnd
  refine ⟨a0, a1, a2, a3, a4, ⟨hv0, b0⟩, ⟨hv1, b1⟩, ⟨hv2, b2⟩, ⟨hv3, b3⟩, ⟨hv4, b4⟩, ?_, ?_, ?_, ?_, ?_, ?_, ?_, ?_, ?_, ?_⟩ <;> (rintro rfl; simp at hnd)

theorem laid_sentinels6 {P : Program} {n0 n1 n2 n3 n4 n5 nm : String} {text0 text1 text2 text3 text4 text5 : List UInt8} {r : List (String × DataW Unit)} {W : World} {g0 g1 g2 g3 g4 g5 : Nat} {ti tp te ts : TypeId} {ms : Array (String × TypeId)} {f : Field}
    (h : laidMet P ((n0, .iface nm (.ptr (.agg [.lit (.string text0)]))) :: (n1, .iface nm (.ptr (.agg [.lit (.string text1)]))) :: (n2, .iface nm (.ptr (.agg [.lit (.string text2)]))) :: (n3, .iface nm (.ptr (.agg [.lit (.string text3)]))) :: (n4, .iface nm (.ptr (.agg [.lit (.string text4)]))) :: (n5, .iface nm (.ptr (.agg [.lit (.string text5)]))) :: r) W)
    (hg0 : P.globalNamed n0 = some g0) (ht0 : (P.globals[g0]?).map (·.type) = some ti) (hg1 : P.globalNamed n1 = some g1) (ht1 : (P.globals[g1]?).map (·.type) = some ti) (hg2 : P.globalNamed n2 = some g2) (ht2 : (P.globals[g2]?).map (·.type) = some ti) (hg3 : P.globalNamed n3 = some g3) (ht3 : (P.globals[g3]?).map (·.type) = some ti) (hg4 : P.globalNamed n4 = some g4) (ht4 : (P.globals[g4]?).map (·.type) = some ti) (hg5 : P.globalNamed n5 = some g5) (ht5 : (P.globals[g5]?).map (·.type) = some ti)
    (hi : P.underlying ti = some (.interface ms)) (hrow : ∀ u, P.typeName? 3 u = some nm → u = tp)
    (hp : P.underlying tp = some (.pointer te)) (he : P.underlying te = some (.struct #[f])) (hft : f.type = ts) (hfo : f.offset = 0) (hs : P.underlying ts = some .string) (hc : P.cellsOf te = 1) (hcs : P.cellsOf ts = 1) :
    ∃ (a0 a1 a2 a3 a4 a5 : Addr),
      (W.var? P n0 = some #[.iface tp (.pointer (some a0))] ∧ Blk W a0) ∧ (W.var? P n1 = some #[.iface tp (.pointer (some a1))] ∧ Blk W a1) ∧ (W.var? P n2 = some #[.iface tp (.pointer (some a2))] ∧ Blk W a2) ∧ (W.var? P n3 = some #[.iface tp (.pointer (some a3))] ∧ Blk W a3) ∧ (W.var? P n4 = some #[.iface tp (.pointer (some a4))] ∧ Blk W a4) ∧ (W.var? P n5 = some #[.iface tp (.pointer (some a5))] ∧ Blk W a5) ∧
      a0 ≠ a1 ∧ a0 ≠ a2 ∧ a0 ≠ a3 ∧ a0 ≠ a4 ∧ a0 ≠ a5 ∧ a1 ≠ a2 ∧ a1 ≠ a3 ∧ a1 ≠ a4 ∧ a1 ≠ a5 ∧ a2 ≠ a3 ∧ a2 ≠ a4 ∧ a2 ≠ a5 ∧ a3 ≠ a4 ∧ a3 ≠ a5 ∧ a4 ≠ a5 := by
  obtain ⟨ps, ⟨g0', t0', cs0, f0, p0, q0, hg0', ht0', hv0, hd0, ⟨g1', t1', cs1, f1, p1, q1, hg1', ht1', hv1, hd1, ⟨g2', t2', cs2, f2, p2, q2, hg2', ht2', hv2, hd2, ⟨g3', t3', cs3, f3, p3, q3, hg3', ht3', hv3, hd3, ⟨g4', t4', cs4, f4, p4, q4, hg4', ht4', hv4, hd4, ⟨g5', t5', cs5, f5, p5, q5, hg5', ht5', hv5, hd5, _, e5⟩, e4⟩, e3⟩, e2⟩, e1⟩, e0⟩, hnd, hrows⟩ := h
  obtain rfl := Option.some.inj (hg0.symm.trans hg0')
  obtain rfl := Option.some.inj (ht0.symm.trans ht0')
  obtain rfl := Option.some.inj (hg1.symm.trans hg1')
  obtain rfl := Option.some.inj (ht1.symm.trans ht1')
  obtain rfl := Option.some.inj (hg2.symm.trans hg2')
  obtain rfl := Option.some.inj (ht2.symm.trans ht2')
  obtain rfl := Option.some.inj (hg3.symm.trans hg3')
  obtain rfl := Option.some.inj (ht3.symm.trans ht3')
  obtain rfl := Option.some.inj (hg4.symm.trans hg4')
  obtain rfl := Option.some.inj (ht4.symm.trans ht4')
  obtain rfl := Option.some.inj (hg5.symm.trans hg5')
  obtain rfl := Option.some.inj (ht5.symm.trans ht5')
  subst e5
  subst e4
  subst e3
  subst e2
  subst e1
  subst e0
  obtain ⟨l0⟩ := cs0
  obtain ⟨l1⟩ := cs1
  obtain ⟨l2⟩ := cs2
  obtain ⟨l3⟩ := cs3
  obtain ⟨l4⟩ := cs4
  obtain ⟨l5⟩ := cs5
  have ok0 : ∀ u v, l0 = [.iface u v] → Value.okWide P W .any 0 u v := fun u v e => by
    subst e
    exact (hrows g0 0 (by simp [MemPlace.row])).2 u v (by simpa using World.var?_cell hg0' hv0 0)
  have ok1 : ∀ u v, l1 = [.iface u v] → Value.okWide P W .any 0 u v := fun u v e => by
    subst e
    exact (hrows g1 0 (by simp [MemPlace.row])).2 u v (by simpa using World.var?_cell hg1' hv1 0)
  have ok2 : ∀ u v, l2 = [.iface u v] → Value.okWide P W .any 0 u v := fun u v e => by
    subst e
    exact (hrows g2 0 (by simp [MemPlace.row])).2 u v (by simpa using World.var?_cell hg2' hv2 0)
  have ok3 : ∀ u v, l3 = [.iface u v] → Value.okWide P W .any 0 u v := fun u v e => by
    subst e
    exact (hrows g3 0 (by simp [MemPlace.row])).2 u v (by simpa using World.var?_cell hg3' hv3 0)
  have ok4 : ∀ u v, l4 = [.iface u v] → Value.okWide P W .any 0 u v := fun u v e => by
    subst e
    exact (hrows g4 0 (by simp [MemPlace.row])).2 u v (by simpa using World.var?_cell hg4' hv4 0)
  have ok5 : ∀ u v, l5 = [.iface u v] → Value.okWide P W .any 0 u v := fun u v e => by
    subst e
    exact (hrows g5 0 (by simp [MemPlace.row])).2 u v (by simpa using World.var?_cell hg5' hv5 0)
  obtain ⟨a0, s0, rfl, hc0, hs0, hz0, rfl⟩ := errorString_of_trod hi hrow hp he hft hfo hs hc hcs hd0 ok0
  obtain ⟨a1, s1, rfl, hc1, hs1, hz1, rfl⟩ := errorString_of_trod hi hrow hp he hft hfo hs hc hcs hd1 ok1
  obtain ⟨a2, s2, rfl, hc2, hs2, hz2, rfl⟩ := errorString_of_trod hi hrow hp he hft hfo hs hc hcs hd2 ok2
  obtain ⟨a3, s3, rfl, hc3, hs3, hz3, rfl⟩ := errorString_of_trod hi hrow hp he hft hfo hs hc hcs hd3 ok3
  obtain ⟨a4, s4, rfl, hc4, hs4, hz4, rfl⟩ := errorString_of_trod hi hrow hp he hft hfo hs hc hcs hd4 ok4
  obtain ⟨a5, s5, rfl, hc5, hs5, hz5, rfl⟩ := errorString_of_trod hi hrow hp he hft hfo hs hc hcs hd5 ok5
  have b0 : Blk W a0 := (hrows a0.block a0.off (by simp [MemPlace.row])).1
  have b1 : Blk W a1 := (hrows a1.block a1.off (by simp [MemPlace.row])).1
  have b2 : Blk W a2 := (hrows a2.block a2.off (by simp [MemPlace.row])).1
  have b3 : Blk W a3 := (hrows a3.block a3.off (by simp [MemPlace.row])).1
  have b4 : Blk W a4 := (hrows a4.block a4.off (by simp [MemPlace.row])).1
  have b5 : Blk W a5 := (hrows a5.block a5.off (by simp [MemPlace.row])).1
  simp [MemPlace.row] at hnd
  refine ⟨a0, a1, a2, a3, a4, a5, ⟨hv0, b0⟩, ⟨hv1, b1⟩, ⟨hv2, b2⟩, ⟨hv3, b3⟩, ⟨hv4, b4⟩, ⟨hv5, b5⟩, ?_, ?_, ?_, ?_, ?_, ?_, ?_, ?_, ?_, ?_, ?_, ?_, ?_, ?_, ?_⟩ <;> (rintro rfl; simp at hnd)

theorem gn_errTooMany : Tryd.prog.globalNamed "loop.example/g00789/impl.errTooMany" = some 4 := by kernel_rfl
theorem gt_errTooMany : (Tryd.prog.globals[4]?).map (·.type) = some 49 := by kernel_rfl
theorem gn_errNoSuchOne : Tryd.prog.globalNamed "loop.example/g00789/impl.errNoSuchOne" = some 0 := by kernel_rfl
theorem gt_errNoSuchOne : (Tryd.prog.globals[0]?).map (·.type) = some 49 := by kernel_rfl
theorem gn_errNobodyWaits : Tryd.prog.globalNamed "loop.example/g00789/impl.errNobodyWaits" = some 5 := by kernel_rfl
theorem gt_errNobodyWaits : (Tryd.prog.globals[5]?).map (·.type) = some 49 := by kernel_rfl
theorem gn_errIsThere : Tryd.prog.globalNamed "loop.example/g00789/impl.errIsThere" = some 2 := by kernel_rfl
theorem gt_errIsThere : (Tryd.prog.globals[2]?).map (·.type) = some 49 := by kernel_rfl
theorem gn_errNotOwner : Tryd.prog.globalNamed "loop.example/g00789/impl.errNotOwner" = some 3 := by kernel_rfl
theorem gt_errNotOwner : (Tryd.prog.globals[3]?).map (·.type) = some 49 := by kernel_rfl
theorem gn_errUnfitOwner : Tryd.prog.globalNamed "loop.example/g00789/impl.errUnfitOwner" = some 1 := by kernel_rfl
theorem gt_errUnfitOwner : (Tryd.prog.globals[1]?).map (·.type) = some 49 := by kernel_rfl
theorem cells_es : Tryd.prog.cellsOf 118 = 1 := by kernel_rfl
theorem cells_str : Tryd.prog.cellsOf 9 = 1 := by kernel_rfl
theorem star_es : "*" ++ "errors.errorString" = "*errors.errorString" := by decide
theorem row_es (u : TypeId) (h : Tryd.prog.typeName? 3 u = some "*errors.errorString") : u = 92 :=
  typeName_ptr_named (nm := "errors.errorString") (by rw [star_es]; kernel_rfl) (by kernel_rfl) (by decide) u (by rw [star_es]; exact h)
/-- a variable that holds an error -/
def VarE (W : World) (n : String) : Prop := ∃ g a, Tryd.prog.globalNamed n = some g ∧ (Tryd.prog.globals[g]?).map (·.type) = some 49 ∧ W.var? Tryd.prog n = some #[.iface 92 (.pointer (some a))]
def names5 : List String := ["loop.example/g00789/impl.errTooMany", "loop.example/g00789/impl.errNoSuchOne", "loop.example/g00789/impl.errNobodyWaits", "loop.example/g00789/impl.errIsThere", "loop.example/g00789/impl.errNotOwner"]
def names6 : List String := ["loop.example/g00789/impl.errTooMany", "loop.example/g00789/impl.errNoSuchOne", "loop.example/g00789/impl.errNobodyWaits", "loop.example/g00789/impl.errIsThere", "loop.example/g00789/impl.errNotOwner", "loop.example/g00789/impl.errUnfitOwner"]
theorem errs_of_laid5 {t0 t1 t2 t3 t4 : List UInt8} {W : World} (h : laidMet Tryd.prog [("loop.example/g00789/impl.errTooMany", .iface "*errors.errorString" (.ptr (.agg [.lit (.string t0)]))), ("loop.example/g00789/impl.errNoSuchOne", .iface "*errors.errorString" (.ptr (.agg [.lit (.string t1)]))), ("loop.example/g00789/impl.errNobodyWaits", .iface "*errors.errorString" (.ptr (.agg [.lit (.string t2)]))), ("loop.example/g00789/impl.errIsThere", .iface "*errors.errorString" (.ptr (.agg [.lit (.string t3)]))), ("loop.example/g00789/impl.errNotOwner", .iface "*errors.errorString" (.ptr (.agg [.lit (.string t4)])))] W) :
    ∃ E : E6, Errs E W ∧ ∀ n, n ∈ names5 → VarE W n := by
  obtain ⟨a0, a1, a2, a3, a4, ⟨v0, b0⟩, ⟨v1, b1⟩, ⟨v2, b2⟩, ⟨v3, b3⟩, ⟨v4, b4⟩, n01, n02, n03, n04, n12, n13, n14, n23, n24, n34⟩ := laid_sentinels5 h gn_errTooMany gt_errTooMany gn_errNoSuchOne gt_errNoSuchOne gn_errNobodyWaits gt_errNobodyWaits gn_errIsThere gt_errIsThere gn_errNotOwner gt_errNotOwner Tryd.underlying49 row_es Tryd.underlying92 Tryd.underlying118 rfl rfl Tryd.underlying9 cells_es cells_str
  have c0 : W.cell? ⟨4, 0, none⟩ = some (.iface 92 (.pointer (some a0))) := by simpa using World.var?_cell gn_errTooMany v0 0
  have c1 : W.cell? ⟨0, 0, none⟩ = some (.iface 92 (.pointer (some a1))) := by simpa using World.var?_cell gn_errNoSuchOne v1 0
  have c2 : W.cell? ⟨5, 0, none⟩ = some (.iface 92 (.pointer (some a2))) := by simpa using World.var?_cell gn_errNobodyWaits v2 0
  have c3 : W.cell? ⟨2, 0, none⟩ = some (.iface 92 (.pointer (some a3))) := by simpa using World.var?_cell gn_errIsThere v3 0
  have c4 : W.cell? ⟨3, 0, none⟩ = some (.iface 92 (.pointer (some a4))) := by simpa using World.var?_cell gn_errNotOwner v4 0
  refine ⟨⟨a0, a1, a2, a3, a4, a0⟩, { many := ⟨c0, b0⟩, range := ⟨c1, b1⟩, empt := ⟨c2, b2⟩, taken := ⟨c3, b3⟩, owner := ⟨c4, b4⟩, many_range := n01, many_empt := n02, many_taken := n03, many_owner := n04, range_empt := n12, range_taken := n13, range_owner := n14, empt_taken := n23, empt_owner := n24, taken_owner := n34 }, fun n hn => ?_⟩
  simp only [names5, List.mem_cons, List.not_mem_nil, or_false] at hn
  rcases hn with rfl | rfl | rfl | rfl | rfl
  · exact ⟨_, _, gn_errTooMany, gt_errTooMany, v0⟩
  · exact ⟨_, _, gn_errNoSuchOne, gt_errNoSuchOne, v1⟩
  · exact ⟨_, _, gn_errNobodyWaits, gt_errNobodyWaits, v2⟩
  · exact ⟨_, _, gn_errIsThere, gt_errIsThere, v3⟩
  · exact ⟨_, _, gn_errNotOwner, gt_errNotOwner, v4⟩

theorem errs_of_laid6 {t0 t1 t2 t3 t4 t5 : List UInt8} {W : World} (h : laidMet Tryd.prog [("loop.example/g00789/impl.errTooMany", .iface "*errors.errorString" (.ptr (.agg [.lit (.string t0)]))), ("loop.example/g00789/impl.errNoSuchOne", .iface "*errors.errorString" (.ptr (.agg [.lit (.string t1)]))), ("loop.example/g00789/impl.errNobodyWaits", .iface "*errors.errorString" (.ptr (.agg [.lit (.string t2)]))), ("loop.example/g00789/impl.errIsThere", .iface "*errors.errorString" (.ptr (.agg [.lit (.string t3)]))), ("loop.example/g00789/impl.errNotOwner", .iface "*errors.errorString" (.ptr (.agg [.lit (.string t4)]))), ("loop.example/g00789/impl.errUnfitOwner", .iface "*errors.errorString" (.ptr (.agg [.lit (.string t5)])))] W) :
    ∃ E : E6, Errs E W ∧ Unf E W ∧ ∀ n, n ∈ names6 → VarE W n := by
  obtain ⟨a0, a1, a2, a3, a4, a5, ⟨v0, b0⟩, ⟨v1, b1⟩, ⟨v2, b2⟩, ⟨v3, b3⟩, ⟨v4, b4⟩, ⟨v5, b5⟩, n01, n02, n03, n04, n05, n12, n13, n14, n15, n23, n24, n25, n34, n35, n45⟩ := laid_sentinels6 h gn_errTooMany gt_errTooMany gn_errNoSuchOne gt_errNoSuchOne gn_errNobodyWaits gt_errNobodyWaits gn_errIsThere gt_errIsThere gn_errNotOwner gt_errNotOwner gn_errUnfitOwner gt_errUnfitOwner Tryd.underlying49 row_es Tryd.underlying92 Tryd.underlying118 rfl rfl Tryd.underlying9 cells_es cells_str
  have c0 : W.cell? ⟨4, 0, none⟩ = some (.iface 92 (.pointer (some a0))) := by simpa using World.var?_cell gn_errTooMany v0 0
  have c1 : W.cell? ⟨0, 0, none⟩ = some (.iface 92 (.pointer (some a1))) := by simpa using World.var?_cell gn_errNoSuchOne v1 0
  have c2 : W.cell? ⟨5, 0, none⟩ = some (.iface 92 (.pointer (some a2))) := by simpa using World.var?_cell gn_errNobodyWaits v2 0
  have c3 : W.cell? ⟨2, 0, none⟩ = some (.iface 92 (.pointer (some a3))) := by simpa using World.var?_cell gn_errIsThere v3 0
  have c4 : W.cell? ⟨3, 0, none⟩ = some (.iface 92 (.pointer (some a4))) := by simpa using World.var?_cell gn_errNotOwner v4 0
  have c5 : W.cell? ⟨1, 0, none⟩ = some (.iface 92 (.pointer (some a5))) := by simpa using World.var?_cell gn_errUnfitOwner v5 0
  refine ⟨⟨a0, a1, a2, a3, a4, a5⟩, { many := ⟨c0, b0⟩, range := ⟨c1, b1⟩, empt := ⟨c2, b2⟩, taken := ⟨c3, b3⟩, owner := ⟨c4, b4⟩, many_range := n01, many_empt := n02, many_taken := n03, many_owner := n04, range_empt := n12, range_taken := n13, range_owner := n14, empt_taken := n23, empt_owner := n24, taken_owner := n34 }, { state := ⟨c5, b5⟩, many := Ne.symm n05, range := Ne.symm n15, empt := Ne.symm n25, taken := Ne.symm n35, owner := Ne.symm n45 }, fun n hn => ?_⟩
  simp only [names6, List.mem_cons, List.not_mem_nil, or_false] at hn
  rcases hn with rfl | rfl | rfl | rfl | rfl | rfl
  · exact ⟨_, _, gn_errTooMany, gt_errTooMany, v0⟩
  · exact ⟨_, _, gn_errNoSuchOne, gt_errNoSuchOne, v1⟩
  · exact ⟨_, _, gn_errNobodyWaits, gt_errNobodyWaits, v2⟩
  · exact ⟨_, _, gn_errIsThere, gt_errIsThere, v3⟩
  · exact ⟨_, _, gn_errNotOwner, gt_errNotOwner, v4⟩
  · exact ⟨_, _, gn_errUnfitOwner, gt_errUnfitOwner, v5⟩

end Go.Proofs.YtachpoehejdpjaaDoor
