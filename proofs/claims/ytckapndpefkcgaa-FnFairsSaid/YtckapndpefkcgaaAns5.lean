/-
  An answer of chapter 5 in its box: a code, an id, a rest and a schedule, whose list is the call's own. No conditions.
-/
import Derived.Laws.Tables
import Derived.Laws.CopyOwn
import Derived.Test.YtckapndpefkcgaaMath5b
import Derived.Test.YtckapndpefkcgaaImpl5d
set_option maxHeartbeats 1000000
namespace Go.Proofs.Ytckapndpefkcgaa
open Go.RowKit
set_option maxRecDepth 100000

def SA (r : A5) (w : World) (e : Ending) (w' : World) : Prop :=
  ∃ A c, e = .returned (.agg #[.int .i64 r.1, .int .i64 r.2.1, .int .i64 r.2.2.1, .int .i64 r.2.2.2.1, .slice A r.2.2.2.2.length c]) ∧ OR 52 3 w' w.heap.size A r.2.2.2.2.length c (fl r.2.2.2.2) ∧ Below w.heap.size w w'
theorem set5_block {W : World} {s : Nat} {t : TypeId} {u0 u1 u2 u3 u4 : Value} (h : W.heap[s]? = some (.cells #[u0, u1, u2, u3, u4] t (0, 0))) (v0 v1 v2 v3 v4 : Value) :
    (((((W.setCell ⟨s, 0, none⟩ (v0)).setCell ⟨s, 1, none⟩ (v1)).setCell ⟨s, 2, none⟩ (v2)).setCell ⟨s, 3, none⟩ (v3)).setCell ⟨s, 4, none⟩ (v4)).heap[s]? = some (.cells #[v0, v1, v2, v3, v4] t (0, 0)) :=
  heap_setCell_same _ _ 4 _ _ _ (heap_setCell_same _ _ 3 _ _ _ (heap_setCell_same _ _ 2 _ _ _ (heap_setCell_same _ _ 1 _ _ _ (heap_setCell_same _ _ 0 _ _ _ h))))
theorem OR.set5 {W : World} {s base n c : Nat} {A : Option Addr} {hs : List Int} {u0 u1 u2 u3 u4 : Value} (ho : OR 52 3 W base A n c hs) (h : W.heap[s]? = some (.cells #[u0, u1, u2, u3, u4] 56 (0, 0))) (v0 v1 v2 v3 v4 : Value) :
    OR 52 3 (((((W.setCell ⟨s, 0, none⟩ (v0)).setCell ⟨s, 1, none⟩ (v1)).setCell ⟨s, 2, none⟩ (v2)).setCell ⟨s, 3, none⟩ (v3)).setCell ⟨s, 4, none⟩ (v4)) base A n c hs :=
  OR.setOther (OR.setOther (OR.setOther (OR.setOther (OR.setOther ho h (by decide) 0 v0) (heap_setCell_same _ _ 0 _ _ _ h) (by decide) 1 v1) (heap_setCell_same _ _ 1 _ _ _ (heap_setCell_same _ _ 0 _ _ _ h)) (by decide) 2 v2)
    (heap_setCell_same _ _ 2 _ _ _ (heap_setCell_same _ _ 1 _ _ _ (heap_setCell_same _ _ 0 _ _ _ h))) (by decide) 3 v3) (heap_setCell_same _ _ 3 _ _ _ (heap_setCell_same _ _ 2 _ _ _ (heap_setCell_same _ _ 1 _ _ _ (heap_setCell_same _ _ 0 _ _ _ h)))) (by decide) 4 v4
theorem below_five {B s : Nat} {w W : World} (h : Below B w W) (hs : B ≤ s) (v0 v1 v2 v3 v4 : Value) : Below B w (((((W.setCell ⟨s, 0, none⟩ (v0)).setCell ⟨s, 1, none⟩ (v1)).setCell ⟨s, 2, none⟩ (v2)).setCell ⟨s, 3, none⟩ (v3)).setCell ⟨s, 4, none⟩ (v4)) :=
  ((((h.setCell (p := ⟨s, 0, none⟩) hs v0).setCell (p := ⟨s, 1, none⟩) hs v1).setCell (p := ⟨s, 2, none⟩) hs v2).setCell (p := ⟨s, 3, none⟩) hs v3).setCell (p := ⟨s, 4, none⟩) hs v4
theorem OR.rowOther {t t' : TypeId} {m : Nat} {w : World} {base n c s : Nat} {A : Option Addr} {hs : List Int} {cs : Array Value} (h : OR t m w base A n c hs) (hk : w.heap[s]? = some (.cells cs t' (0, 0))) (ht : t ≠ t') (vs : Array Value) :
    OR t m (w.setRow s vs) base A n c hs := by
  refine h.keepAll fun g e => setRow_other _ _ _ _ ?_
  subst e
  intro e
  rcases h.2 with ⟨h0, _⟩ | ⟨g', cap', cur, h0, _, hg, _⟩
  · cases h0
  · injection h0 with h0 _ _
    injection h0 with h0
    injection h0 with h0
    subst h0
    have e' : g = s := e
    subst e'
    rw [hk] at hg
    injection hg with hg
    injection hg with _ hg _
    exact ht hg.symm
theorem sa_row {w W : World} {s : Nat} {cs : Array Value} (h : W.heap[s]? = some (.cells cs 56 (0, 0))) (hs : w.heap.size ≤ s) (hb : Below w.heap.size w W) (r : A5) {A : Option Addr} {c : Nat} (ho : OR 52 3 W w.heap.size A r.2.2.2.2.length c (fl r.2.2.2.2)) :
    SA r w (.returned (.agg #[.int .i64 r.1, .int .i64 r.2.1, .int .i64 r.2.2.1, .int .i64 r.2.2.2.1, .slice A r.2.2.2.2.length c])) (W.setRow s #[.int .i64 r.1, .int .i64 r.2.1, .int .i64 r.2.2.1, .int .i64 r.2.2.2.1, .slice A r.2.2.2.2.length c]) :=
  ⟨A, c, rfl, ho.rowOther h (by decide) _, below_setRow hb hs _⟩
theorem sa_box {w W : World} {s : Nat} {u0 u1 u2 u3 u4 : Value} (h : W.heap[s]? = some (.cells #[u0, u1, u2, u3, u4] 56 (0, 0))) (hs : w.heap.size ≤ s) (hb : Below w.heap.size w W) (r : A5) {A : Option Addr} {c : Nat} (ho : OR 52 3 W w.heap.size A r.2.2.2.2.length c (fl r.2.2.2.2)) :
    SA r w (.returned (.agg #[.int .i64 r.1, .int .i64 r.2.1, .int .i64 r.2.2.1, .int .i64 r.2.2.2.1, .slice A r.2.2.2.2.length c])) (((((W.setCell ⟨s, 0, none⟩ (.int .i64 r.1)).setCell ⟨s, 1, none⟩ (.int .i64 r.2.1)).setCell ⟨s, 2, none⟩ (.int .i64 r.2.2.1)).setCell ⟨s, 3, none⟩ (.int .i64 r.2.2.2.1)).setCell ⟨s, 4, none⟩ (.slice A r.2.2.2.2.length c)) :=
  ⟨A, c, rfl, ho.set5 h _ _ _ _ _, below_five hb hs _ _ _ _ _⟩

end Go.Proofs.Ytckapndpefkcgaa
