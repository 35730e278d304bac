/-
  An answer of chapter 6 in its box: a code, whether it was got, who is next, a lock, a queue; the lists are the call's own. No conditions.
-/
import Derived.Test.YtachpoehejdpjaaDoorMath6
import Derived.Test.YtachpoehejdpjaaDoorRow6
import Derived.Laws.Tables
import Derived.Laws.CopyOwn
namespace Go.Proofs.YtachpoehejdpjaaDoor
open Go.RowKit
set_option maxRecDepth 100000

theorem OR.setOther6 {t t' : TypeId} {m : Nat} {w : World} {base n c s : Nat} {A : Option Addr} {hs : List Int} {cs : Array Value} (h : OR t m w base A n c hs) (hk : w.heap[s]? = some (.cells cs t' (0, 0))) (ht : t ≠ t') (j : Nat) (v : Value) :
    OR t m (w.setCell ⟨s, j, none⟩ v) base A n c hs := by
  refine h.keepAll fun g e => Below.heap_setCell _ _ _ _ ?_
  subst e
  intro e
  rcases h.2 with ⟨h0, _⟩ | ⟨g', cap', cur, h0, _, hg, _⟩
  · cases h0
  · injection h0 with h0 _ _
    injection h0 with h0
    injection h0 with h0
    subst h0
    have e' : g = s := e
    subst e'
    rw [hk] at hg
    injection hg with hg
    injection hg with _ hg _
    exact ht hg.symm
/-- two rows that are not the same block -/
def Apart (A B : Option Addr) : Prop := ∀ g, A = some ⟨g, 0, none⟩ → B ≠ some ⟨g, 0, none⟩
theorem Apart.none_left (B : Option Addr) : Apart none B := fun g h => by cases h
theorem Apart.none_right (A : Option Addr) : Apart A none := fun g _ h => by cases h
theorem Apart.rows {t t' : TypeId} {m m' : Nat} {w w' : World} {b b' n n' c c' : Nat} {A B : Option Addr} {hs hs' : List Int} (h : OR t m w b A n c hs) (h' : OR t' m' w' b' B n' c' hs') (hb : w.heap.size ≤ b') : Apart A B := fun g e e' => by
  subst e; subst e'
  have := h.lt; have := h'.lt
  omega
def LRV (r : A6) (A : Option Addr) (c : Nat) (B : Option Addr) (d : Nat) : Value := .agg #[.int .i64 r.1, .bool r.2.1, .int .i64 r.2.2.1, .int .i64 r.2.2.2.1, .slice A r.2.2.2.2.1.length c, .slice B r.2.2.2.2.2.length d]
/-- an answer, handed back -/
def LA (r : A6) (w : World) (e : Ending) (w' : World) : Prop :=
  ∃ A c B d, e = .returned (LRV r A c B d) ∧ OR 2 1 w' w.heap.size A r.2.2.2.2.1.length c r.2.2.2.2.1 ∧ OR 2 1 w' w.heap.size B r.2.2.2.2.2.length d r.2.2.2.2.2 ∧ Apart A B ∧ Below w.heap.size w w'
theorem set6_block {W : World} {s : Nat} {t : TypeId} {u0 u1 u2 u3 u4 u5 : Value} (h : W.heap[s]? = some (.cells #[u0, u1, u2, u3, u4, u5] t (0, 0))) (v0 v1 v2 v3 v4 v5 : Value) :
    ((((((W.setCell ⟨s, 0, none⟩ (v0)).setCell ⟨s, 1, none⟩ (v1)).setCell ⟨s, 2, none⟩ (v2)).setCell ⟨s, 3, none⟩ (v3)).setCell ⟨s, 4, none⟩ (v4)).setCell ⟨s, 5, none⟩ (v5)).heap[s]? = some (.cells #[v0, v1, v2, v3, v4, v5] t (0, 0)) :=
  (heap_setCell_same _ _ 5 _ _ _ (heap_setCell_same _ _ 4 _ _ _ (heap_setCell_same _ _ 3 _ _ _ (heap_setCell_same _ _ 2 _ _ _ (heap_setCell_same _ _ 1 _ _ _ (heap_setCell_same _ _ 0 _ _ _ h))))))
theorem OR.set6 {W : World} {s base n c : Nat} {A : Option Addr} {hs : List Int} {u0 u1 u2 u3 u4 u5 : Value} (ho : OR 2 1 W base A n c hs) (h : W.heap[s]? = some (.cells #[u0, u1, u2, u3, u4, u5] 30 (0, 0))) (v0 v1 v2 v3 v4 v5 : Value) :
    OR 2 1 ((((((W.setCell ⟨s, 0, none⟩ (v0)).setCell ⟨s, 1, none⟩ (v1)).setCell ⟨s, 2, none⟩ (v2)).setCell ⟨s, 3, none⟩ (v3)).setCell ⟨s, 4, none⟩ (v4)).setCell ⟨s, 5, none⟩ (v5)) base A n c hs :=
  (OR.setOther6 (OR.setOther6 (OR.setOther6 (OR.setOther6 (OR.setOther6 (OR.setOther6 ho h (by decide) 0 v0) (heap_setCell_same _ _ 0 _ _ _ h) (by decide) 1 v1) (heap_setCell_same _ _ 1 _ _ _ (heap_setCell_same _ _ 0 _ _ _ h)) (by decide) 2 v2) (heap_setCell_same _ _ 2 _ _ _ (heap_setCell_same _ _ 1 _ _ _ (heap_setCell_same _ _ 0 _ _ _ h))) (by decide) 3 v3) (heap_setCell_same _ _ 3 _ _ _ (heap_setCell_same _ _ 2 _ _ _ (heap_setCell_same _ _ 1 _ _ _ (heap_setCell_same _ _ 0 _ _ _ h)))) (by decide) 4 v4) (heap_setCell_same _ _ 4 _ _ _ (heap_setCell_same _ _ 3 _ _ _ (heap_setCell_same _ _ 2 _ _ _ (heap_setCell_same _ _ 1 _ _ _ (heap_setCell_same _ _ 0 _ _ _ h))))) (by decide) 5 v5)
theorem below_six {B s : Nat} {w W : World} (h : Below B w W) (hs : B ≤ s) (v0 v1 v2 v3 v4 v5 : Value) : Below B w ((((((W.setCell ⟨s, 0, none⟩ (v0)).setCell ⟨s, 1, none⟩ (v1)).setCell ⟨s, 2, none⟩ (v2)).setCell ⟨s, 3, none⟩ (v3)).setCell ⟨s, 4, none⟩ (v4)).setCell ⟨s, 5, none⟩ (v5)) :=
  ((((((h.setCell (p := ⟨s, 0, none⟩) hs v0).setCell (p := ⟨s, 1, none⟩) hs v1).setCell (p := ⟨s, 2, none⟩) hs v2).setCell (p := ⟨s, 3, none⟩) hs v3).setCell (p := ⟨s, 4, none⟩) hs v4).setCell (p := ⟨s, 5, none⟩) hs v5)
/-- an answer written into its box -/
theorem la_box {w W : World} {s : Nat} {u0 u1 u2 u3 u4 u5 : Value} (h : W.heap[s]? = some (.cells #[u0, u1, u2, u3, u4, u5] 30 (0, 0))) (hs : w.heap.size ≤ s) (hb : Below w.heap.size w W) (r : A6) {A B : Option Addr} {c d : Nat}
    (ho : OR 2 1 W w.heap.size A r.2.2.2.2.1.length c r.2.2.2.2.1) (ho2 : OR 2 1 W w.heap.size B r.2.2.2.2.2.length d r.2.2.2.2.2) (ap : Apart A B) :
    LA r w (.returned (.agg #[.int .i64 r.1, .bool r.2.1, .int .i64 r.2.2.1, .int .i64 r.2.2.2.1, .slice A r.2.2.2.2.1.length c, .slice B r.2.2.2.2.2.length d])) ((((((W.setCell ⟨s, 0, none⟩ (.int .i64 r.1)).setCell ⟨s, 1, none⟩ (.bool r.2.1)).setCell ⟨s, 2, none⟩ (.int .i64 r.2.2.1)).setCell ⟨s, 3, none⟩ (.int .i64 r.2.2.2.1)).setCell ⟨s, 4, none⟩ (.slice A r.2.2.2.2.1.length c)).setCell ⟨s, 5, none⟩ (.slice B r.2.2.2.2.2.length d)) :=
  ⟨A, c, B, d, rfl, ho.set6 h _ _ _ _ _ _, ho2.set6 h _ _ _ _ _ _, ap, below_six hb hs _ _ _ _ _ _⟩
theorem OR.rowOther6 {t t' : TypeId} {m : Nat} {w : World} {base n c s : Nat} {A : Option Addr} {hs : List Int} {cs : Array Value} (h : OR t m w base A n c hs) (hk : w.heap[s]? = some (.cells cs t' (0, 0))) (ht : t ≠ t') (vs : Array Value) :
    OR t m (w.setRow s vs) base A n c hs := by
  refine h.keepAll fun g e => setRow_other _ _ _ _ ?_
  subst e
  intro e
  rcases h.2 with ⟨h0, _⟩ | ⟨g', cap', cur, h0, _, hg, _⟩
  · cases h0
  · injection h0 with h0 _ _
    injection h0 with h0
    injection h0 with h0
    subst h0
    have e' : g = s := e
    subst e'
    rw [hk] at hg
    injection hg with hg
    injection hg with _ hg _
    exact ht hg.symm
theorem la_row {w W : World} {s : Nat} {cs : Array Value} (h : W.heap[s]? = some (.cells cs 30 (0, 0))) (hs : w.heap.size ≤ s) (hb : Below w.heap.size w W) (r : A6) {A B : Option Addr} {c d : Nat}
    (ho : OR 2 1 W w.heap.size A r.2.2.2.2.1.length c r.2.2.2.2.1) (ho2 : OR 2 1 W w.heap.size B r.2.2.2.2.2.length d r.2.2.2.2.2) (ap : Apart A B) :
    LA r w (.returned (.agg #[.int .i64 r.1, .bool r.2.1, .int .i64 r.2.2.1, .int .i64 r.2.2.2.1, .slice A r.2.2.2.2.1.length c, .slice B r.2.2.2.2.2.length d])) (W.setRow s #[.int .i64 r.1, .bool r.2.1, .int .i64 r.2.2.1, .int .i64 r.2.2.2.1, .slice A r.2.2.2.2.1.length c, .slice B r.2.2.2.2.2.length d]) :=
  ⟨A, c, B, d, rfl, ho.rowOther6 h (by decide) _, ho2.rowOther6 h (by decide) _, ap, below_setRow hb hs _⟩
/-- two results: what lies in a box, and an error -/
theorem results_row_err {P : Program} {fn : Func} {p u : Tmp} {ty : TypeId} (h : fn.results = #[.cell p ty, .tmp u]) (tmps : Array Value) (w : World) (g : Nat) (t : TypeId) (cs : Array Value) (fr : Nat × Nat) (d : TypeDesc)
    (hp : tmps.getD p undef = .pointer (some ⟨g, 0, none⟩)) (hg : w.heap[g]? = some (.cells cs t fr))
    (hu : P.underlying ty = some d) (hd : (match d with | .struct _ | .array _ _ => true | _ => false) = true) (hi : (P.info? ty).map (·.size) = some cs.size) (v : Value) (hv : tmps.getD u undef = v) :
    (results fn tmps).run P w = .ok (.tuple #[.agg cs, v]) w := by
  rw [results_cell_tmp h, hp, hv]
  simp [asAddr, run_loadVar_row w g t ty cs fr d hg hu hd hi, Result.andThen]

end Go.Proofs.YtachpoehejdpjaaDoor
