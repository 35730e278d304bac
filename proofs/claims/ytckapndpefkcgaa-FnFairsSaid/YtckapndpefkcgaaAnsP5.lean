/-
  An answer of PicksOf in its box: a code, ids and a schedule; both lists are the call's own. No conditions.
-/
import Derived.Test.YtckapndpefkcgaaMath5c
import Derived.Test.YtckapndpefkcgaaRow6
import Derived.Test.YtckapndpefkcgaaAns5
import Derived.Test.YtckapndpefkcgaaSpec5b
set_option maxHeartbeats 1000000
namespace Go.Proofs.Ytckapndpefkcgaa
open Go.RowKit
set_option maxRecDepth 100000

def PA (r : AP) (w : World) (e : Ending) (w' : World) : Prop :=
  ∃ I d A c, e = .returned (.agg #[.int .i64 r.1, .slice I r.2.1.length d, .int .i64 r.2.2.1, .slice A r.2.2.2.length c]) ∧ OR 2 1 w' w.heap.size I r.2.1.length d r.2.1 ∧ OR 52 3 w' w.heap.size A r.2.2.2.length c (fl r.2.2.2) ∧ Below w.heap.size w w'
theorem set4_block {W : World} {s : Nat} {t : TypeId} {u0 u1 u2 u3 : Value} (h : W.heap[s]? = some (.cells #[u0, u1, u2, u3] t (0, 0))) (v0 v1 v2 v3 : Value) :
    ((((W.setCell ⟨s, 0, none⟩ v0).setCell ⟨s, 1, none⟩ v1).setCell ⟨s, 2, none⟩ v2).setCell ⟨s, 3, none⟩ v3).heap[s]? = some (.cells #[v0, v1, v2, v3] t (0, 0)) :=
  heap_setCell_same _ _ 3 _ _ _ (heap_setCell_same _ _ 2 _ _ _ (heap_setCell_same _ _ 1 _ _ _ (heap_setCell_same _ _ 0 _ _ _ h)))
theorem OR.set4 {t t' : TypeId} {m : Nat} {W : World} {s base n c : Nat} {A : Option Addr} {hs : List Int} {u0 u1 u2 u3 : Value} (ho : OR t m W base A n c hs) (h : W.heap[s]? = some (.cells #[u0, u1, u2, u3] t' (0, 0))) (ht : t ≠ t') (v0 v1 v2 v3 : Value) :
    OR t m ((((W.setCell ⟨s, 0, none⟩ v0).setCell ⟨s, 1, none⟩ v1).setCell ⟨s, 2, none⟩ v2).setCell ⟨s, 3, none⟩ v3) base A n c hs :=
  OR.setOther (OR.setOther (OR.setOther (OR.setOther ho h ht 0 v0) (heap_setCell_same _ _ 0 _ _ _ h) ht 1 v1) (heap_setCell_same _ _ 1 _ _ _ (heap_setCell_same _ _ 0 _ _ _ h)) ht 2 v2)
    (heap_setCell_same _ _ 2 _ _ _ (heap_setCell_same _ _ 1 _ _ _ (heap_setCell_same _ _ 0 _ _ _ h))) ht 3 v3
theorem below_four {B s : Nat} {w W : World} (h : Below B w W) (hs : B ≤ s) (v0 v1 v2 v3 : Value) : Below B w ((((W.setCell ⟨s, 0, none⟩ v0).setCell ⟨s, 1, none⟩ v1).setCell ⟨s, 2, none⟩ v2).setCell ⟨s, 3, none⟩ v3) :=
  (((h.setCell (p := ⟨s, 0, none⟩) hs v0).setCell (p := ⟨s, 1, none⟩) hs v1).setCell (p := ⟨s, 2, none⟩) hs v2).setCell (p := ⟨s, 3, none⟩) hs v3
theorem pa_box {w W : World} {s : Nat} {u0 u1 u2 u3 : Value} (h : W.heap[s]? = some (.cells #[u0, u1, u2, u3] 48 (0, 0))) (hs : w.heap.size ≤ s) (hb : Below w.heap.size w W) (r : AP) {I A : Option Addr} {d c : Nat} (hi : OR 2 1 W w.heap.size I r.2.1.length d r.2.1) (ho : OR 52 3 W w.heap.size A r.2.2.2.length c (fl r.2.2.2)) :
    PA r w (.returned (.agg #[.int .i64 r.1, .slice I r.2.1.length d, .int .i64 r.2.2.1, .slice A r.2.2.2.length c])) ((((W.setCell ⟨s, 0, none⟩ (.int .i64 r.1)).setCell ⟨s, 1, none⟩ (.slice I r.2.1.length d)).setCell ⟨s, 2, none⟩ (.int .i64 r.2.2.1)).setCell ⟨s, 3, none⟩ (.slice A r.2.2.2.length c)) :=
  ⟨I, d, A, c, rfl, hi.set4 h (by decide) _ _ _ _, ho.set4 h (by decide) _ _ _ _, below_four hb hs _ _ _ _⟩
theorem own_ne_any5 {t t' : TypeId} {m : Nat} {w : World} {base n c s : Nat} {A : Option Addr} {hs : List Int} {cs : Array Value} {fr : Nat × Nat} (h : OR t m w base A n c hs) (hk : w.heap[s]? = some (.cells cs t' fr)) (ht : t' ≠ t) : some s ≠ (Value.slice A n c).ownBlock := by
  intro e
  rcases h.2 with ⟨h0, _⟩ | ⟨g', cap', cur, h0, _, hg, _⟩
  · injection h0 with h0 _ _; subst h0; cases e
  · injection h0 with h0 _ _
    subst h0
    have e' : s = g' := Option.some.inj e
    subst e'
    rw [hk] at hg
    injection hg with hg
    injection hg with _ hg _
    exact ht hg
theorem OR.grownOther5 {t t' : TypeId} {m m' : Nat} {w w' : World} {b b' n n' c c' : Nat} {A I : Option Addr} {hs hs' : List Int} (h : OR t m w b A n c hs) (h' : OR t' m' w b' I n' c' hs') (ht : t ≠ t') (hg : w.grownBy w' (Value.slice I n' c').ownBlock) : OR t m w' b A n c hs := by
  refine h.keepAll fun g e => ?_
  subst e
  rcases h.2 with ⟨h0, _⟩ | ⟨g', cap', cur, h0, _, hk, _⟩
  · cases h0
  · injection h0 with h0 _ _
    injection h0 with h0
    injection h0 with h0
    subst h0
    exact hg.block _ (Array.getElem?_eq_some_iff.1 hk).1 (own_ne_any5 h' hk ht)

def PRound (w1 wr : World) (O : Nat) (tot : AP) (i : Value) : Prop :=
  ∃ (m : Nat) (is : List Int) (b : Int) (xs : List R3) (I : Option Addr) (d : Nat) (A : Option Addr) (c : Nat), i = .int .i64 m ∧ is.length + m ≤ 200 ∧ wr.heap[O]? = some (.cells #[.int .i64 0, .slice I is.length d, .int .i64 b, .slice A xs.length c] 48 (0, 0)) ∧
    OR 2 1 wr w1.heap.size I is.length d is ∧ OR 52 3 wr w1.heap.size A xs.length c (fl xs) ∧ sf5 b xs = 0 ∧ pks5 m is b xs = tot ∧ Below w1.heap.size w1 wr
theorem pround_mk {w1 wr : World} {O : Nat} {tot : AP} {i : Value} (m : Nat) (is : List Int) (b : Int) (xs : List R3) (I : Option Addr) (d : Nat) (A : Option Addr) (c : Nat) (h0 : i = .int .i64 m) (h1 : is.length + m ≤ 200)
    (h2 : wr.heap[O]? = some (.cells #[.int .i64 0, .slice I is.length d, .int .i64 b, .slice A xs.length c] 48 (0, 0))) (h3 : OR 2 1 wr w1.heap.size I is.length d is) (h4 : OR 52 3 wr w1.heap.size A xs.length c (fl xs)) (h5 : sf5 b xs = 0) (h6 : pks5 m is b xs = tot) (h7 : Below w1.heap.size w1 wr) : PRound w1 wr O tot i :=
  ⟨m, is, b, xs, I, d, A, c, h0, h1, h2, h3, h4, h5, h6, h7⟩

end Go.Proofs.Ytckapndpefkcgaa
