/-
  An answer of chapter 6 beside an error: with no error it is an answer; else what stands beside the error is of no matter. No conditions.
-/
import Derived.Test.YtachpoehejdpjaaDoorAns6
import Derived.Test.YtachpoehejdpjaaDoorErr6
namespace Go.Proofs.YtachpoehejdpjaaDoor
open Go.RowKit
set_option maxRecDepth 100000

def TA (E : E6) (r : A6) (w : World) (e : Ending) (w' : World) : Prop :=
  (r.1 = 0 ∧ ∃ A c B d, e = .returned (.tuple #[LRV r A c B d, .nilIface]) ∧ OR 2 1 w' w.heap.size A r.2.2.2.2.1.length c r.2.2.2.2.1 ∧ OR 2 1 w' w.heap.size B r.2.2.2.2.2.length d r.2.2.2.2.2 ∧ Apart A B ∧ Below w.heap.size w w') ∨
  (r.1 ≠ 0 ∧ ∃ u0 u1 u2 u3 A n c B m d, e = .returned (.tuple #[.agg #[.int .i64 u0, .bool u1, .int .i64 u2, .int .i64 u3, .slice A n c, .slice B m d], er6 E r.1]) ∧ Below w.heap.size w w')
/-- refused: the box as it was at first -/
theorem ta_err {E : E6} {w W : World} {s : Nat} {cs : Array Value} {q : Int} {a : Addr} (h : W.heap[s]? = some (.cells cs 30 (0, 0))) (hs : w.heap.size ≤ s) (hb : Below w.heap.size w W) (hq : q ≠ 0) (ha : E.at q = a) :
    TA E (z6 q) w (.returned (.tuple #[.agg #[.int .i64 0, .bool false, .int .i64 0, .int .i64 0, .slice none 0 0, .slice none 0 0], .iface 92 (.pointer (some a))])) (W.setRow s #[.int .i64 0, .bool false, .int .i64 0, .int .i64 0, .slice none 0 0, .slice none 0 0]) :=
  .inr ⟨hq, 0, false, 0, 0, none, 0, 0, none, 0, 0, by rw [← ha]; exact congrArg Ending.returned (by rw [show er6 E (z6 q).1 = .iface 92 (.pointer (some (E.at q))) from er6_at E hq]), below_setRow hb hs _⟩
theorem ta_row {E : E6} {w W : World} {s : Nat} {cs : Array Value} (h : W.heap[s]? = some (.cells cs 30 (0, 0))) (hs : w.heap.size ≤ s) (hb : Below w.heap.size w W) (r : A6) (hr : r.1 = 0) {A B : Option Addr} {c d : Nat}
    (ho : OR 2 1 W w.heap.size A r.2.2.2.2.1.length c r.2.2.2.2.1) (ho2 : OR 2 1 W w.heap.size B r.2.2.2.2.2.length d r.2.2.2.2.2) (ap : Apart A B) :
    TA E r w (.returned (.tuple #[.agg #[.int .i64 r.1, .bool r.2.1, .int .i64 r.2.2.1, .int .i64 r.2.2.2.1, .slice A r.2.2.2.2.1.length c, .slice B r.2.2.2.2.2.length d], .nilIface])) (W.setRow s #[.int .i64 r.1, .bool r.2.1, .int .i64 r.2.2.1, .int .i64 r.2.2.2.1, .slice A r.2.2.2.2.1.length c, .slice B r.2.2.2.2.2.length d]) :=
  .inl ⟨hr, A, c, B, d, rfl, ho.rowOther6 h (by decide) _, ho2.rowOther6 h (by decide) _, ap, below_setRow hb hs _⟩
theorem ta_box {E : E6} {w W : World} {s : Nat} {u0 u1 u2 u3 u4 u5 : Value} (h : W.heap[s]? = some (.cells #[u0, u1, u2, u3, u4, u5] 30 (0, 0))) (hs : w.heap.size ≤ s) (hb : Below w.heap.size w W) (r : A6) (hr : r.1 = 0) {A B : Option Addr} {c d : Nat}
    (ho : OR 2 1 W w.heap.size A r.2.2.2.2.1.length c r.2.2.2.2.1) (ho2 : OR 2 1 W w.heap.size B r.2.2.2.2.2.length d r.2.2.2.2.2) (ap : Apart A B) :
    TA E r w (.returned (.tuple #[.agg #[.int .i64 r.1, .bool r.2.1, .int .i64 r.2.2.1, .int .i64 r.2.2.2.1, .slice A r.2.2.2.2.1.length c, .slice B r.2.2.2.2.2.length d], .nilIface])) ((((((W.setCell ⟨s, 0, none⟩ (.int .i64 r.1)).setCell ⟨s, 1, none⟩ (.bool r.2.1)).setCell ⟨s, 2, none⟩ (.int .i64 r.2.2.1)).setCell ⟨s, 3, none⟩ (.int .i64 r.2.2.2.1)).setCell ⟨s, 4, none⟩ (.slice A r.2.2.2.2.1.length c)).setCell ⟨s, 5, none⟩ (.slice B r.2.2.2.2.2.length d)) :=
  .inl ⟨hr, A, c, B, d, rfl, ho.set6 h _ _ _ _ _ _, ho2.set6 h _ _ _ _ _ _, ap, below_six hb hs _ _ _ _ _ _⟩

end Go.Proofs.YtachpoehejdpjaaDoor
