/-
  errors.Is at the sentinels of chapter 6, and the code that is asked by it. No conditions beyond that the sentinels lie where they were laid.
-/
import Derived.Test.YtachpoehejdpjaaDoorChecked
import Derived.Test.YtachpoehejdpjaaDoorMath6
import Derived.WalkKit
import Derived.LaidEql
import Derived.Stop.Asserts
import Derived.RowKitTokens
namespace Go.Proofs.YtachpoehejdpjaaDoor
open Go.RowKit Go.Extern.Stop Go.Stop Go.Extern
set_option maxRecDepth 100000

theorem e6_typeOf (v : Value) (w : World) : (Extern.ReflectliteType.typeOf #[.iface 92 v]).run Tryd.prog w = .ok (.iface 82 (.agg #[.pointer (some ⟨6, 92, none⟩)])) w := by kernel_rfl
noncomputable def e6Ext : Array Value → Sem Value := Extern.ReflectliteType.method fun t => do Go.Extern.Rtype.noPackHeld "Comparable" t; pure (.bool (← typeInfo t).comparable)
theorem e6_comparable (w : World) : (e6Ext #[.agg #[.pointer (some ⟨6, 92, none⟩)]]).run Tryd.prog w = .ok (.bool true) w := by kernel_rfl
theorem e6_method (v : Value) (w : World) : (Go.method 141 82 v "Comparable").run Tryd.prog w = .ok (81, v) w := by kernel_rfl
theorem e6_comp : (Tryd.prog.info? 92).map (·.comparable) = some true := by kernel_rfl
theorem e6_size : (Tryd.prog.info? 118).map (·.size) = some 1 := by kernel_rfl
theorem e6_noIs (v : Value) (xT : TypeId) (w : World) : (Instr.typeAssert (.iface 92 v) xT 84 true).run Tryd.prog w = .ok (.tuple #[.nilIface, .bool false]) w := run_typeAssert_lacksB Tryd.underlying84 (by kernel_rfl) (by kernel_rfl) v xT w
theorem e6_noUnwrap (v : Value) (xT : TypeId) (w : World) : (Instr.typeAssert (.iface 92 v) xT 87 true).run Tryd.prog w = .ok (.tuple #[.nilIface, .bool false]) w := run_typeAssert_lacksB Tryd.underlying87 (by kernel_rfl) (by kernel_rfl) v xT w
theorem e6_noUnwraps (v : Value) (xT : TypeId) (w : World) : (Instr.typeAssert (.iface 92 v) xT 89 true).run Tryd.prog w = .ok (.tuple #[.nilIface, .bool false]) w := run_typeAssert_lacksB Tryd.underlying89 (by kernel_rfl) (by kernel_rfl) v xT w

theorem is6_same (a : Addr) (w : World) :
    Calls Tryd.prog 58 #[.iface 92 (.pointer (some a)), .iface 92 (.pointer (some a))] w fun e w' => e = .returned (.bool true) ∧ w = w' := by
  obtain ⟨i, hi, hcmp⟩ := Option.map_eq_some_iff.1 e6_comp
  obtain ⟨j, hj, hjs⟩ := Option.map_eq_some_iff.1 e6_size
  have h8 := @run_callFunc_extern Tryd.prog 61 _ Extern.ReflectliteType.typeOf Tryd.func61 (by kernel_rfl) (by kernel_rfl) (by kernel_rfl) (by kernel_rfl)
  have h32 := @run_callFunc_extern Tryd.prog 81 _ e6Ext Tryd.func81 (by kernel_rfl) (by kernel_rfl) (by kernel_rfl) (by kernel_rfl)
  have tT := e6_typeOf
  have cT := e6_comparable
  have mR := e6_method
  have heq := run_eql_iface_ptr_same (P := Tryd.prog) w a Tryd.underlying49 Tryd.underlying92 hi hcmp hj
  go_enter Tryd.func58, Tryd.ntmps58
  go_wp2
  refine wp_loop_rounds 1 ?_
  rw [rounds_succ]
  go_wp2
  go_ret
  exact ⟨rfl, rfl⟩

theorem is6_other (a b : Addr) (ca cb : Array Value) (ta tb : TypeId) (w : World) (hne : a ≠ b) (ha : w.heap[a.block]? = some (.cells ca ta (0, 0))) (hb : w.heap[b.block]? = some (.cells cb tb (0, 0))) :
    Calls Tryd.prog 58 #[.iface 92 (.pointer (some a)), .iface 92 (.pointer (some b))] w fun e w' => e = .returned (.bool false) ∧ w = w' := by
  obtain ⟨i, hi, hcmp⟩ := Option.map_eq_some_iff.1 e6_comp
  obtain ⟨j, hj, hjs⟩ := Option.map_eq_some_iff.1 e6_size
  have h8 := @run_callFunc_extern Tryd.prog 61 _ Extern.ReflectliteType.typeOf Tryd.func61 (by kernel_rfl) (by kernel_rfl) (by kernel_rfl) (by kernel_rfl)
  have h32 := @run_callFunc_extern Tryd.prog 81 _ e6Ext Tryd.func81 (by kernel_rfl) (by kernel_rfl) (by kernel_rfl) (by kernel_rfl)
  have tT := e6_typeOf
  have cT := e6_comparable
  have mR := e6_method
  have nE := e6_noIs
  have uE := e6_noUnwrap
  have vE := e6_noUnwraps
  have heq := run_eql_iface_ptr_other (P := Tryd.prog) w Tryd.underlying49 Tryd.underlying92 hi hcmp hj (by rw [hjs]; decide) hne ha hb
  go_enter Tryd.func58, Tryd.ntmps58
  go_wp2
  refine wp_loop_rounds 1 ?_
  rw [rounds_succ]
  go_wp2
  go_ret
  exact ⟨rfl, rfl⟩

/-- the six sentinels' addresses -/
structure E6 where
  many : Addr
  range : Addr
  empt : Addr
  taken : Addr
  owner : Addr
  state : Addr
def E6.at (E : E6) (q : Int) : Addr := if q = 2 then E.many else if q = 3 then E.range else if q = 4 then E.empt else if q = 6 then E.taken else if q = 7 then E.owner else E.state
/-- the error that a code is told by -/
def er6 (E : E6) (q : Int) : Value := if q = 0 then .nilIface else .iface 92 (.pointer (some (E.at q)))
theorem er6_zero (E : E6) : er6 E 0 = .nilIface := rfl
theorem er6_at (E : E6) {q : Int} (h : q ≠ 0) : er6 E q = .iface 92 (.pointer (some (E.at q))) := if_neg h
/-- a block as errors.New lays it -/
def Blk (w : World) (a : Addr) : Prop := ∃ c t, w.heap[a.block]? = some (.cells c t (0, 0))
/-- five sentinels lie where they were laid, each apart from the others -/
structure Errs (E : E6) (w : World) : Prop where
  many : w.cell? ⟨4, 0, none⟩ = some (.iface 92 (.pointer (some E.many))) ∧ Blk w E.many
  range : w.cell? ⟨0, 0, none⟩ = some (.iface 92 (.pointer (some E.range))) ∧ Blk w E.range
  empt : w.cell? ⟨5, 0, none⟩ = some (.iface 92 (.pointer (some E.empt))) ∧ Blk w E.empt
  taken : w.cell? ⟨2, 0, none⟩ = some (.iface 92 (.pointer (some E.taken))) ∧ Blk w E.taken
  owner : w.cell? ⟨3, 0, none⟩ = some (.iface 92 (.pointer (some E.owner))) ∧ Blk w E.owner
  many_range : E.many ≠ E.range
  many_empt : E.many ≠ E.empt
  many_taken : E.many ≠ E.taken
  many_owner : E.many ≠ E.owner
  range_empt : E.range ≠ E.empt
  range_taken : E.range ≠ E.taken
  range_owner : E.range ≠ E.owner
  empt_taken : E.empt ≠ E.taken
  empt_owner : E.empt ≠ E.owner
  taken_owner : E.taken ≠ E.owner
/-- the sixth one -/
structure Unf (E : E6) (w : World) : Prop where
  state : w.cell? ⟨1, 0, none⟩ = some (.iface 92 (.pointer (some E.state))) ∧ Blk w E.state
  many : E.state ≠ E.many
  range : E.state ≠ E.range
  empt : E.state ≠ E.empt
  taken : E.state ≠ E.taken
  owner : E.state ≠ E.owner

theorem Blk.below {w w' : World} {a : Addr} (h : Blk w a) (hb : Below w.heap.size w w') : Blk w' a := by
  obtain ⟨c, t, h⟩ := h
  exact ⟨c, t, (hb.block _ (Array.getElem?_eq_some_iff.1 h).1).trans h⟩
theorem cell_below6 {w w' : World} {a : Addr} {v : Value} (h : w.cell? a = some v) (hb : Below w.heap.size w w') : w'.cell? a = some v :=
  (World.cell?_of_block (hb.block _ (World.block_lt_of_cell? _ _ h))).trans h
theorem Errs.below {E : E6} {w w' : World} (h : Errs E w) (hb : Below w.heap.size w w') : Errs E w' :=
  { many := ⟨cell_below6 h.many.1 hb, h.many.2.below hb⟩, range := ⟨cell_below6 h.range.1 hb, h.range.2.below hb⟩, empt := ⟨cell_below6 h.empt.1 hb, h.empt.2.below hb⟩, taken := ⟨cell_below6 h.taken.1 hb, h.taken.2.below hb⟩, owner := ⟨cell_below6 h.owner.1 hb, h.owner.2.below hb⟩,
    many_range := h.many_range, many_empt := h.many_empt, many_taken := h.many_taken, many_owner := h.many_owner, range_empt := h.range_empt, range_taken := h.range_taken, range_owner := h.range_owner, empt_taken := h.empt_taken, empt_owner := h.empt_owner, taken_owner := h.taken_owner }
theorem Unf.below {E : E6} {w w' : World} (h : Unf E w) (hb : Below w.heap.size w w') : Unf E w' :=
  { state := ⟨cell_below6 h.state.1 hb, h.state.2.below hb⟩, many := h.many, range := h.range, empt := h.empt, taken := h.taken, owner := h.owner }

theorem codeOf_nil (w : World) :
    Calls Tryd.prog 43 #[.nilIface] w fun e w' => e = .returned (.int .i64 0) ∧ w = w' := by
  go_enter Tryd.func43, Tryd.ntmps43
  go_wp2
  go_ret
  exact ⟨rfl, rfl⟩
theorem codeOf_many (E : E6) (w : World) (h : Errs E w) :
    Calls Tryd.prog 43 #[.iface 92 (.pointer (some E.many))] w fun e w' => e = .returned (.int .i64 2) ∧ w = w' := by
  have c0 := h.many.1
  obtain ⟨x0, y0, b0⟩ := h.many.2
  have C0 := Lib.hid (is6_same E.many w)
  clear h
  go_enter Tryd.func43, Tryd.ntmps43
  go_wp2_with fail
  refine C0.out.mono ?_
  rintro e9 w9 ⟨rfl, rfl⟩
  go_wp2
  go_ret
  exact ⟨rfl, rfl⟩
theorem codeOf_range (E : E6) (w : World) (h : Errs E w) :
    Calls Tryd.prog 43 #[.iface 92 (.pointer (some E.range))] w fun e w' => e = .returned (.int .i64 3) ∧ w = w' := by
  have c0 := h.many.1
  obtain ⟨x0, y0, b0⟩ := h.many.2
  have c1 := h.range.1
  obtain ⟨x1, y1, b1⟩ := h.range.2
  have C0 := Lib.hid (is6_other E.range E.many x1 x0 y1 y0 w (Ne.symm h.many_range) b1 b0)
  have C1 := Lib.hid (is6_same E.range w)
  clear h
  go_enter Tryd.func43, Tryd.ntmps43
  go_wp2_with fail
  refine C0.out.mono ?_
  rintro e9 w9 ⟨rfl, rfl⟩
  go_wp2_with fail
  refine C1.out.mono ?_
  rintro e9 w9 ⟨rfl, rfl⟩
  go_wp2
  go_ret
  exact ⟨rfl, rfl⟩
theorem codeOf_empt (E : E6) (w : World) (h : Errs E w) :
    Calls Tryd.prog 43 #[.iface 92 (.pointer (some E.empt))] w fun e w' => e = .returned (.int .i64 4) ∧ w = w' := by
  have c0 := h.many.1
  obtain ⟨x0, y0, b0⟩ := h.many.2
  have c1 := h.range.1
  obtain ⟨x1, y1, b1⟩ := h.range.2
  have c2 := h.empt.1
  obtain ⟨x2, y2, b2⟩ := h.empt.2
  have C0 := Lib.hid (is6_other E.empt E.many x2 x0 y2 y0 w (Ne.symm h.many_empt) b2 b0)
  have C1 := Lib.hid (is6_other E.empt E.range x2 x1 y2 y1 w (Ne.symm h.range_empt) b2 b1)
  have C2 := Lib.hid (is6_same E.empt w)
  clear h
  go_enter Tryd.func43, Tryd.ntmps43
  go_wp2_with fail
  refine C0.out.mono ?_
  rintro e9 w9 ⟨rfl, rfl⟩
  go_wp2_with fail
  refine C1.out.mono ?_
  rintro e9 w9 ⟨rfl, rfl⟩
  go_wp2_with fail
  refine C2.out.mono ?_
  rintro e9 w9 ⟨rfl, rfl⟩
  go_wp2
  go_ret
  exact ⟨rfl, rfl⟩
theorem codeOf_taken (E : E6) (w : World) (h : Errs E w) :
    Calls Tryd.prog 43 #[.iface 92 (.pointer (some E.taken))] w fun e w' => e = .returned (.int .i64 6) ∧ w = w' := by
  have c0 := h.many.1
  obtain ⟨x0, y0, b0⟩ := h.many.2
  have c1 := h.range.1
  obtain ⟨x1, y1, b1⟩ := h.range.2
  have c2 := h.empt.1
  obtain ⟨x2, y2, b2⟩ := h.empt.2
  have c3 := h.taken.1
  obtain ⟨x3, y3, b3⟩ := h.taken.2
  have C0 := Lib.hid (is6_other E.taken E.many x3 x0 y3 y0 w (Ne.symm h.many_taken) b3 b0)
  have C1 := Lib.hid (is6_other E.taken E.range x3 x1 y3 y1 w (Ne.symm h.range_taken) b3 b1)
  have C2 := Lib.hid (is6_other E.taken E.empt x3 x2 y3 y2 w (Ne.symm h.empt_taken) b3 b2)
  have C3 := Lib.hid (is6_same E.taken w)
  clear h
  go_enter Tryd.func43, Tryd.ntmps43
  go_wp2_with fail
  refine C0.out.mono ?_
  rintro e9 w9 ⟨rfl, rfl⟩
  go_wp2_with fail
  refine C1.out.mono ?_
  rintro e9 w9 ⟨rfl, rfl⟩
  go_wp2_with fail
  refine C2.out.mono ?_
  rintro e9 w9 ⟨rfl, rfl⟩
  go_wp2_with fail
  refine C3.out.mono ?_
  rintro e9 w9 ⟨rfl, rfl⟩
  go_wp2
  go_ret
  exact ⟨rfl, rfl⟩
theorem codeOf_owner (E : E6) (w : World) (h : Errs E w) :
    Calls Tryd.prog 43 #[.iface 92 (.pointer (some E.owner))] w fun e w' => e = .returned (.int .i64 7) ∧ w = w' := by
  have c0 := h.many.1
  obtain ⟨x0, y0, b0⟩ := h.many.2
  have c1 := h.range.1
  obtain ⟨x1, y1, b1⟩ := h.range.2
  have c2 := h.empt.1
  obtain ⟨x2, y2, b2⟩ := h.empt.2
  have c3 := h.taken.1
  obtain ⟨x3, y3, b3⟩ := h.taken.2
  have c4 := h.owner.1
  obtain ⟨x4, y4, b4⟩ := h.owner.2
  have C0 := Lib.hid (is6_other E.owner E.many x4 x0 y4 y0 w (Ne.symm h.many_owner) b4 b0)
  have C1 := Lib.hid (is6_other E.owner E.range x4 x1 y4 y1 w (Ne.symm h.range_owner) b4 b1)
  have C2 := Lib.hid (is6_other E.owner E.empt x4 x2 y4 y2 w (Ne.symm h.empt_owner) b4 b2)
  have C3 := Lib.hid (is6_other E.owner E.taken x4 x3 y4 y3 w (Ne.symm h.taken_owner) b4 b3)
  have C4 := Lib.hid (is6_same E.owner w)
  clear h
  go_enter Tryd.func43, Tryd.ntmps43
  go_wp2_with fail
  refine C0.out.mono ?_
  rintro e9 w9 ⟨rfl, rfl⟩
  go_wp2_with fail
  refine C1.out.mono ?_
  rintro e9 w9 ⟨rfl, rfl⟩
  go_wp2_with fail
  refine C2.out.mono ?_
  rintro e9 w9 ⟨rfl, rfl⟩
  go_wp2_with fail
  refine C3.out.mono ?_
  rintro e9 w9 ⟨rfl, rfl⟩
  go_wp2_with fail
  refine C4.out.mono ?_
  rintro e9 w9 ⟨rfl, rfl⟩
  go_wp2
  go_ret
  exact ⟨rfl, rfl⟩
theorem codeOf_state (E : E6) (w : World) (h : Errs E w) (hu : Unf E w) :
    Calls Tryd.prog 43 #[.iface 92 (.pointer (some E.state))] w fun e w' => e = .returned (.int .i64 9) ∧ w = w' := by
  have c0 := h.many.1
  obtain ⟨x0, y0, b0⟩ := h.many.2
  have c1 := h.range.1
  obtain ⟨x1, y1, b1⟩ := h.range.2
  have c2 := h.empt.1
  obtain ⟨x2, y2, b2⟩ := h.empt.2
  have c3 := h.taken.1
  obtain ⟨x3, y3, b3⟩ := h.taken.2
  have c4 := h.owner.1
  obtain ⟨x4, y4, b4⟩ := h.owner.2
  obtain ⟨xs, ys, bs⟩ := hu.state.2
  have C0 := Lib.hid (is6_other E.state E.many xs x0 ys y0 w hu.many bs b0)
  have C1 := Lib.hid (is6_other E.state E.range xs x1 ys y1 w hu.range bs b1)
  have C2 := Lib.hid (is6_other E.state E.empt xs x2 ys y2 w hu.empt bs b2)
  have C3 := Lib.hid (is6_other E.state E.taken xs x3 ys y3 w hu.taken bs b3)
  have C4 := Lib.hid (is6_other E.state E.owner xs x4 ys y4 w hu.owner bs b4)
  clear h hu
  go_enter Tryd.func43, Tryd.ntmps43
  go_wp2_with fail
  refine C0.out.mono ?_
  rintro e9 w9 ⟨rfl, rfl⟩
  go_wp2_with fail
  refine C1.out.mono ?_
  rintro e9 w9 ⟨rfl, rfl⟩
  go_wp2_with fail
  refine C2.out.mono ?_
  rintro e9 w9 ⟨rfl, rfl⟩
  go_wp2_with fail
  refine C3.out.mono ?_
  rintro e9 w9 ⟨rfl, rfl⟩
  go_wp2_with fail
  refine C4.out.mono ?_
  rintro e9 w9 ⟨rfl, rfl⟩
  go_wp2
  go_ret
  exact ⟨rfl, rfl⟩

/-- whether a code is told by one of the five -/
def five6 (q : Int) : Prop := q = 0 ∨ q = 2 ∨ q = 3 ∨ q = 4 ∨ q = 6 ∨ q = 7
theorem codeOf_five (E : E6) (q : Int) (hq : five6 q) (w : World) (h : Errs E w) :
    Calls Tryd.prog 43 #[er6 E q] w fun e w' => e = .returned (.int .i64 q) ∧ w = w' := by
  rcases hq with rfl | rfl | rfl | rfl | rfl | rfl
  · exact codeOf_nil w
  · exact codeOf_many E w h
  · exact codeOf_range E w h
  · exact codeOf_empt E w h
  · exact codeOf_taken E w h
  · exact codeOf_owner E w h
theorem codeOf_any (E : E6) (q : Int) (hq : five6 q ∨ q = 9) (w : World) (h : Errs E w) (hu : Unf E w) :
    Calls Tryd.prog 43 #[er6 E q] w fun e w' => e = .returned (.int .i64 q) ∧ w = w' := by
  rcases hq with hq | rfl
  · exact codeOf_five E q hq w h
  · exact codeOf_state E w h hu

end Go.Proofs.YtachpoehejdpjaaDoor
