/-
  The events of chapter 3 are drawn: a list of one's own. For codes of at most 2^20 bytes.
  Ahead of it:
  An event with a fault is drawn. For codes of at most 2^20 bytes.
  Ahead of it:
  The small draws of chapter 3: an act, a call, a call with a fault, an event with a fault: each answers numbers, and turns nothing that was there but its own source. For codes of at most 2^20 bytes.
  Ahead of it:
  How the model's draws read a code's bytes: l1Source, l1Later, l1Next, l1Pick, l1Chance, l1Draw: each returns, writes nothing but its own source, and hands back numbers in their bounds. For codes of at most 2^20 bytes.
-/
import Derived.Test.YtkhphkfbjbhgaaaGreatSpec3w
import Derived.Test.YtkhphkfbjbhgaaaGreatSpec1
namespace Go.Proofs.YtkhphkfbjbhgaaaGreat
open Go.RowKit

/-- block g is a source: a code's slice, and the place that comes next -/
def Src (w : World) (g : Nat) (A : Option Addr) (k c a : Nat) : Prop := w.heap[g]? = some (.cells #[.slice A k c, .int .i64 (a : Int)] 175 (0, 0))

set_option maxHeartbeats 1000000 in
theorem Only.grownBy {g : Nat} {w w' : World} (h : Only g (g + 1) w w') : w.grownBy w' (some g) :=
  ⟨h.1.os, h.1.tape, h.1.output, h.1.size, fun b hb hne => by
    have hbg : b ≠ g := fun e => hne (by rw [e])
    rcases Nat.lt_or_ge b g with h' | h'
    · exact h.1.block b h'
    · exact h.2 b (by omega) hb⟩
set_option maxHeartbeats 1000000 in
theorem Only.grown {lo hi : Nat} {w a b : World} {row : Option Nat} (h : Only lo hi w a) (hg : a.grownBy b row) (hlo : lo ≤ w.heap.size) (hr : ∀ k, row = some k → w.heap.size ≤ k) : Only lo hi w b := by
  have hs := h.1.size
  refine ⟨h.1.grown hg (by omega) (fun k hk => by have := hr k hk; omega), fun i hi' hs' => (hg.block i (by omega) (fun e => by have := hr i e.symm; omega)).trans (h.2 i hi' hs')⟩
set_option maxHeartbeats 1000000 in
theorem Only.alloc {lo hi : Nat} {w a : World} (h : Only lo hi w a) (hlo : lo ≤ w.heap.size) (o : Obj) : Only lo hi w (a.alloc o) :=
  ⟨h.1.alloc (by have := h.1.size; omega) o, fun i hi' hs' => (Below.heap_alloc a o i (by have := h.1.size; omega)).trans (h.2 i hi' hs')⟩
set_option maxHeartbeats 1000000 in
theorem Src.alloc {w : World} {g : Nat} {A : Option Addr} {k c a : Nat} (h : Src w g A k c a) (o : Obj) : Src (w.alloc o) g A k c a :=
  (Below.heap_alloc w o g (Array.getElem?_eq_some_iff.1 h).1).trans h
set_option maxHeartbeats 1000000 in
theorem Src.lt {w : World} {g : Nat} {A : Option Addr} {k c a : Nat} (h : Src w g A k c a) : g < w.heap.size := (Array.getElem?_eq_some_iff.1 h).1
set_option maxHeartbeats 1000000 in
theorem Src.below {w w' : World} {g : Nat} {A : Option Addr} {k c a : Nat} (h : Src w g A k c a) (hb : Below w.heap.size w w') : Src w' g A k c a := (hb.block g h.lt).trans h
set_option maxHeartbeats 1000000 in
theorem Src.grown {w w' : World} {g : Nat} {A : Option Addr} {k c a : Nat} {row : Option Nat} (h : Src w g A k c a) (hb : w.grownBy w' row) (hr : ∀ k, row = some k → k ≠ g) : Src w' g A k c a :=
  (hb.block g h.lt (fun e => hr g e.symm rfl)).trans h
end Go.Proofs.YtkhphkfbjbhgaaaGreat

namespace Go.Proofs.YtkhphkfbjbhgaaaGreat
open Go.RowKit
set_option maxRecDepth 100000

set_option maxHeartbeats 1000000 in
theorem Src.setOther3 {w : World} {g : Nat} {A : Option Addr} {k c a : Nat} (h : Src w g A k c a) {s : Nat} (hs : s ≠ g) (j : Nat) (v : Value) : Src (w.setCell ⟨s, j, none⟩ v) g A k c a :=
  (Below.heap_setCell _ _ _ _ (by simp; omega)).trans h

/-- what is drawn lies in a box s, behind its own source g; the answer's box is at the base -/
structure CF3 (w W : World) (g s : Nat) (A : Option Addr) (k c a : Nat) (u0 u1 u2 u3 : Int) : Prop where
  kb : W.heap[s]? = some (.cells #[.int .i64 u0, .int .i64 u1, .int .i64 u2, .int .i64 u3] 68 (0, 0))
  kr : W.heap[w.heap.size]? = some (.cells #[.int .i64 0, .int .i64 0, .int .i64 0, .int .i64 0] 68 (0, 0))
  sr : Src W g A k c a
  on : Below w.heap.size w W
  wg : w.heap.size < g
  gs : g < s
section
variable {w W W' : World} {g s k c a a' : Nat} {A : Option Addr} {u0 u1 u2 u3 : Int}
set_option maxHeartbeats 1000000 in
theorem CF3.step (h : CF3 w W g s A k c a u0 u1 u2 u3) (hs : Src W' g A k c a') (ho : Only g (g + 1) W W') : CF3 w W' g s A k c a' u0 u1 u2 u3 :=
  have z := (Array.getElem?_eq_some_iff.1 h.kb).1
  ⟨(ho.2 s (by have := h.gs; omega) z).trans h.kb, (ho.1.block w.heap.size h.wg).trans h.kr, hs, h.on.trans (ho.1.mono (by have := h.wg; omega)), h.wg, h.gs⟩
set_option maxHeartbeats 1000000 in
theorem CF3.new (h : CF3 w W g s A k c a u0 u1 u2 u3) (o : Obj) : CF3 w (W.alloc o) g s A k c a u0 u1 u2 u3 :=
  ⟨(Below.heap_alloc W o s (Array.getElem?_eq_some_iff.1 h.kb).1).trans h.kb, (Below.heap_alloc W o _ (Array.getElem?_eq_some_iff.1 h.kr).1).trans h.kr, h.sr.alloc o, h.on.trans ((below_new W o).mono h.on.size), h.wg, h.gs⟩
set_option maxHeartbeats 1000000 in
theorem CF3.calls (h : CF3 w W g s A k c a u0 u1 u2 u3) (hb : Below W.heap.size W W') : CF3 w W' g s A k c a u0 u1 u2 u3 :=
  ⟨(hb.block s (Array.getElem?_eq_some_iff.1 h.kb).1).trans h.kb, (hb.block _ (Array.getElem?_eq_some_iff.1 h.kr).1).trans h.kr, h.sr.below hb, h.on.trans (hb.mono h.on.size), h.wg, h.gs⟩
end

end Go.Proofs.YtkhphkfbjbhgaaaGreat

namespace Go.Proofs.YtkhphkfbjbhgaaaGreat
open Go.RowKit
set_option maxRecDepth 100000

/-- what is drawn lies in a box s, behind its own source g; the answer's box is at the base -/
structure EF3 (w W : World) (g s : Nat) (A : Option Addr) (k c a : Nat) (u0 u1 u2 u3 u4 u5 u6 : Int) : Prop where
  kb : W.heap[s]? = some (.cells #[.int .i64 u0, .int .i64 u1, .int .i64 u2, .int .i64 u3, .int .i64 u4, .int .i64 u5, .int .i64 u6] 78 (0, 0))
  kr : W.heap[w.heap.size]? = some (.cells #[.int .i64 0, .int .i64 0, .int .i64 0, .int .i64 0, .int .i64 0, .int .i64 0, .int .i64 0] 78 (0, 0))
  sr : Src W g A k c a
  on : Below w.heap.size w W
  wg : w.heap.size < g
  gs : g < s
section
variable {w W W' : World} {g s k c a a' : Nat} {A : Option Addr} {u0 u1 u2 u3 u4 u5 u6 : Int}
set_option maxHeartbeats 1000000 in
theorem EF3.step (h : EF3 w W g s A k c a u0 u1 u2 u3 u4 u5 u6) (hs : Src W' g A k c a') (ho : Only g (g + 1) W W') : EF3 w W' g s A k c a' u0 u1 u2 u3 u4 u5 u6 :=
  have z := (Array.getElem?_eq_some_iff.1 h.kb).1
  ⟨(ho.2 s (by have := h.gs; omega) z).trans h.kb, (ho.1.block w.heap.size h.wg).trans h.kr, hs, h.on.trans (ho.1.mono (by have := h.wg; omega)), h.wg, h.gs⟩
set_option maxHeartbeats 1000000 in
theorem EF3.new (h : EF3 w W g s A k c a u0 u1 u2 u3 u4 u5 u6) (o : Obj) : EF3 w (W.alloc o) g s A k c a u0 u1 u2 u3 u4 u5 u6 :=
  ⟨(Below.heap_alloc W o s (Array.getElem?_eq_some_iff.1 h.kb).1).trans h.kb, (Below.heap_alloc W o _ (Array.getElem?_eq_some_iff.1 h.kr).1).trans h.kr, h.sr.alloc o, h.on.trans ((below_new W o).mono h.on.size), h.wg, h.gs⟩
set_option maxHeartbeats 1000000 in
theorem EF3.calls (h : EF3 w W g s A k c a u0 u1 u2 u3 u4 u5 u6) (hb : Below W.heap.size W W') : EF3 w W' g s A k c a u0 u1 u2 u3 u4 u5 u6 :=
  ⟨(hb.block s (Array.getElem?_eq_some_iff.1 h.kb).1).trans h.kb, (hb.block _ (Array.getElem?_eq_some_iff.1 h.kr).1).trans h.kr, h.sr.below hb, h.on.trans (hb.mono h.on.size), h.wg, h.gs⟩
set_option maxHeartbeats 1000000 in
theorem EF3.set4 (h : EF3 w W g s A k c a u0 u1 u2 u3 u4 u5 u6) (v : Int) : EF3 w (W.setCell ⟨s, 4, none⟩ (.int .i64 v)) g s A k c a u0 u1 u2 u3 v u5 u6 :=
  ⟨heap_setCell_same _ _ 4 _ _ _ h.kb, (Below.heap_setCell _ _ _ _ (by simp; have := h.wg; have := h.gs; omega)).trans h.kr, h.sr.setOther3 (by have := h.gs; omega) 4 _, h.on.setCell (p := ⟨s, 4, none⟩) (by simp; have := h.wg; have := h.gs; omega) _, h.wg, h.gs⟩
end

end Go.Proofs.YtkhphkfbjbhgaaaGreat

namespace Go.Proofs.YtkhphkfbjbhgaaaGreat
open Go.RowKit
set_option maxRecDepth 100000

set_option maxHeartbeats 1000000 in
theorem Tryz.info_EventD : (Tryz.prog.info? 78).map (fun i => (i.zero, i.size, i.bytes)) = some (some (.agg #[.int .i64 0, .int .i64 0, .int .i64 0, .int .i64 0, .int .i64 0, .int .i64 0, .int .i64 0]), 7, 56) := by kernel_rfl
set_option maxHeartbeats 1000000 in
theorem list_new3 (W : World) (l : List Value) (t : TypeId) : ∀ j u, l[j]? = some u → (W.alloc (.cells l.toArray t)).cell? ((⟨W.heap.size, 0, none⟩ : Addr).add j) = some u := by
  intro j u hu
  rw [Go.WideShapes.add_plain]
  have h := cell_of_row (W.alloc (.cells l.toArray t)) W.heap.size (0 + j) _ _ _ (heap_alloc_new W _)
  rw [h]
  simpa using hu
/-- events that are being drawn: a list of one's own, and the source behind them -/
structure EL (w W : World) (g : Nat) (A : Option Addr) (k c a : Nat) (B : Option Addr) (n c' : Nat) (xs : List Int) : Prop where
  ow : OR 78 7 W w.heap.size B n c' xs
  sr : Src W g A k c a
  on : Only g (g + 1) w W
  gw : g < w.heap.size
section
variable {w W W' : World} {g k c a a' n c' : Nat} {A B : Option Addr} {xs : List Int}
set_option maxHeartbeats 1000000 in
theorem EL.size (h : EL w W g A k c a B n c' xs) : w.heap.size ≤ W.heap.size := h.on.1.size
set_option maxHeartbeats 1000000 in
theorem EL.step (h : EL w W g A k c a B n c' xs) (hs : Src W' g A k c a') (ho : Only g (g + 1) W W') : EL w W' g A k c a' B n c' xs :=
  ⟨h.ow.keepAll fun b e => by
    subst e
    have hl := h.ow.lt
    exact ho.2 b (by have := h.gw; omega) hl.2, hs, h.on.trans ho, h.gw⟩
end
end Go.Proofs.YtkhphkfbjbhgaaaGreat
