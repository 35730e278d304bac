/-
  The law's helpers on what a run answers: compare, mark, look again. No conditions beyond that its lists can be read.
-/
import Derived.Test.YtkhphkfbjbhgaaaGreatLoop3
import Derived.Test.YtkhphkfbjbhgaaaGreatInts
import Derived.Test.YtkhphkfbjbhgaaaGreatSpec3n
import Derived.Test.YtkhphkfbjbhgaaaGreatKans3
namespace Go.Proofs.YtkhphkfbjbhgaaaGreat
open Go.RowKit
set_option maxRecDepth 100000

set_option maxHeartbeats 1000000 in
theorem RQ.below {w w' : World} {lo hi : Nat} {p : Rq} {K : Ker} {cs ns : List Int} (h : RQ w lo hi p K cs ns) (hb : Below w.heap.size w w') (hh : hi ≤ w.heap.size) : RQ w' lo hi p K cs ns :=
  ⟨h.l1, h.l2, h.l3, h.l4, h.l5, h.m1.below hb (by have := h.b1; omega), h.m2.below hb (by have := h.b2; omega), h.m3.below hb (by have := h.b3; omega), h.m4.below hb (by have := h.b4; omega), h.m5.below hb (by have := h.b5; omega), h.d14, h.b1, h.b2, h.b3, h.b4, h.b5, h.k4, h.k5⟩
set_option maxHeartbeats 1000000 in
theorem RQ.keep {w w' : World} {lo hi : Nat} {p : Rq} {K : Ker} {cs ns : List Int} (h : RQ w lo hi p K cs ns) (hb : ∀ b, lo ≤ b → b < hi → w'.heap[b]? = w.heap[b]?) : RQ w' lo hi p K cs ns :=
  ⟨h.l1, h.l2, h.l3, h.l4, h.l5, h.m1.keep (fun b x y => hb b (by have := h.b1; omega) (by have := h.b1; omega)), h.m2.keep (fun b x y => hb b (by have := h.b2; omega) (by have := h.b2; omega)), h.m3.keep (fun b x y => hb b (by have := h.b3; omega) (by have := h.b3; omega)), h.m4.keep (fun b x y => hb b (by have := h.b4; omega) (by have := h.b4; omega)), h.m5.keep (fun b x y => hb b (by have := h.b5; omega) (by have := h.b5; omega)), h.d14, h.b1, h.b2, h.b3, h.b4, h.b5, h.k4, h.k5⟩

/-- an answer's lists, marked from 1 on -/
def MkQ (w : World) (p : Rq) : Prop :=
  Mine w p.g1 (p.g1 + 1) 2 p.A1 p.n1 (fun k => .int .i64 ((1 + k : Nat) : Int)) ∧ Mine w p.g2 (p.g2 + 1) 4 p.A2 p.n2 (fun k => .bool (Go.Proofs.YtkhphkfbjbhgaaaGreat.m3 (1 + p.n1 + k))) ∧ Mine w p.g3 (p.g3 + 1) 88 p.A3 (p.n3 * 4) (fun k => .int .i64 ((1 + p.n1 + p.n2 + k : Nat) : Int)) ∧
    Mine w p.g4 (p.g4 + 1) 2 p.A4 p.n4 (fun k => .int .i64 ((1 + p.n1 + p.n2 + p.n3 * 4 + k : Nat) : Int)) ∧ Mine w p.g5 (p.g5 + 1) 65 p.A5 (p.n5 * 3) (fun k => .int .i64 ((1 + p.n1 + p.n2 + p.n3 * 4 + p.n4 + k : Nat) : Int))
def Rq.lt (p : Rq) (w : World) : Prop := p.g1 < w.heap.size ∧ p.g2 < w.heap.size ∧ p.g3 < w.heap.size ∧ p.g4 < w.heap.size ∧ p.g5 < w.heap.size
set_option maxHeartbeats 1000000 in
theorem MkQ.below {w w' : World} {p : Rq} (h : MkQ w p) (b : Below w.heap.size w w') (hg : p.lt w) : MkQ w' p :=
  ⟨h.1.below b hg.1, h.2.1.below b hg.2.1, h.2.2.1.below b hg.2.2.1, h.2.2.2.1.below b hg.2.2.2.1, h.2.2.2.2.below b hg.2.2.2.2⟩
end Go.Proofs.YtkhphkfbjbhgaaaGreat
