/-
  An answer of chapter 3 written into a box of the call's own, whether the box was made ahead of the answer or behind it.
  Ahead of it:
  The laws' helpers on slices of accounts: copy, compare, mark, look again: what each does, for every slice that can be read. No conditions beyond that the slices can be read.
-/
import Derived.Test.YtkhphkfbjbhgaaaGreatChecked
import Derived.Test.YtkhphkfbjbhgaaaGreatDo3
import Derived.Test.YtkhphkfbjbhgaaaGreatKer3
import Derived.Test.YtkhphkfbjbhgaaaGreatAcc2
import Derived.Test.YtkhphkfbjbhgaaaGreatOwn4
import Derived.Test.YtkhphkfbjbhgaaaGreatInts
-- Bools
namespace Go.Proofs.YtkhphkfbjbhgaaaGreat
open Go.RowKit

/-- a count's mark in a bool -/
def m3 (m : Nat) : Bool := decide (((m : Nat) : Int).tmod 3 = 0)
set_option maxHeartbeats 1000000 in
theorem Tryz.info_bool : (Tryz.prog.info? 4).map (fun i => (i.zero, i.size, i.bytes)) = some (some (.bool false), 1, 1) := by kernel_rfl

end Go.Proofs.YtkhphkfbjbhgaaaGreat

-- Kit3
namespace Go.Proofs.YtkhphkfbjbhgaaaGreat
open Go.RowKit

set_option maxHeartbeats 1000000 in
theorem Tryz.info_Account : (Tryz.prog.info? 88).map (fun i => (i.zero, i.size, i.bytes)) = some (some (.agg #[.int .i64 0, .int .i64 0, .int .i64 0, .int .i64 0]), 4, 32) := by kernel_rfl

end Go.Proofs.YtkhphkfbjbhgaaaGreat

namespace Go.Proofs.YtkhphkfbjbhgaaaGreat
open Go.RowKit
set_option maxRecDepth 100000

/-- the answer (q, K, notes) in the box gb, its lists in blocks of their own, all made since w -/
def AnsAt (w : World) (gb : Nat) (q : Int) (K : Ker) (ns : List Int) (W : World) : Prop :=
  ∃ p : Rp, W.heap[gb]? = some (.cells #[.int .i64 q, .slice p.A1 p.n1 p.c1, .slice p.A2 p.n2 p.c2, .slice p.A3 p.n3 p.c3, .int .i64 K.tick, .int .i64 K.run, .slice p.A4 p.n4 p.c4] 72 (0, 0)) ∧ ROwn W w.heap.size W.heap.size p K ns ∧ (gb ≠ p.g1 ∧ gb ≠ p.g2 ∧ gb ≠ p.g3 ∧ gb ≠ p.g4) ∧ (w.heap.size ≤ gb ∧ gb < W.heap.size) ∧ Below w.heap.size w W
set_option maxHeartbeats 1000000 in
theorem ROwn.kep {gs : List Nat} {w w' : World} {lo hi : Nat} {p : Rp} {K : Ker} {ns : List Int} (h : ROwn w lo hi p K ns) (k : Kept gs w w') (h1 : p.g1 ∉ gs) (h2 : p.g2 ∉ gs) (h3 : p.g3 ∉ gs) (h4 : p.g4 ∉ gs) : ROwn w' lo hi p K ns :=
  ⟨h.l1, h.l2, h.l3, h.l4, h.nil1, h.m1.kept k h1, h.m2.kept k h2, h.m3.kept k h3, h.m4.kept k h4, h.d12, h.d13, h.d14, h.d23, h.d24, h.d34, h.b1, h.b2, h.b3, h.b4⟩
set_option maxHeartbeats 1000000 in
theorem ansAt_of {w v : World} {gb lo hi : Nat} {p : Rp} {K : Ker} {q : Int} {ns : List Int} (hx : v.heap[gb]? = some (.cells #[.int .i64 0, .slice none 0 0, .slice none 0 0, .slice none 0 0, .int .i64 0, .int .i64 0, .slice none 0 0] 72 (0, 0))) (ho : ROwn v lo hi p K ns) (hd : gb < lo ∨ hi ≤ gb) (hlo : w.heap.size ≤ lo) (hhi : hi ≤ v.heap.size) (hg : w.heap.size ≤ gb) (hb : Below w.heap.size w v) :
    AnsAt w gb q K ns (v.setRow gb #[.int .i64 q, .slice p.A1 p.n1 p.c1, .slice p.A2 p.n2 p.c2, .slice p.A3 p.n3 p.c3, .int .i64 K.tick, .int .i64 K.run, .slice p.A4 p.n4 p.c4]) := by
  have gl := (Array.getElem?_eq_some_iff.1 hx).1
  have b1 := ho.b1; have b2 := ho.b2; have b3 := ho.b3; have b4 := ho.b4
  have far : ∀ {u n : Nat} {t : TypeId} {A : Option Addr} {f : Nat → Value}, Mine v u (u + 1) t A n f → gb ≠ u → Mine (v.setRow gb #[.int .i64 q, .slice p.A1 p.n1 p.c1, .slice p.A2 p.n2 p.c2, .slice p.A3 p.n3 p.c3, .int .i64 K.tick, .int .i64 K.run, .slice p.A4 p.n4 p.c4]) u (u + 1) t A n f := fun hm hne =>
    hm.keep fun b h1 h2 => setRow_other v gb b _ (by omega)
  have d1 : gb ≠ p.g1 := by omega
  have d2 : gb ≠ p.g2 := by omega
  have d3 : gb ≠ p.g3 := by omega
  have d4 : gb ≠ p.g4 := by omega
  refine ⟨p, setRow_heap v gb _ _ _ _ hx, ⟨ho.l1, ho.l2, ho.l3, ho.l4, ho.nil1, far ho.m1 d1, far ho.m2 d2, far ho.m3 d3, far ho.m4 d4, ho.d12, ho.d13, ho.d14, ho.d23, ho.d24, ho.d34, ?_, ?_, ?_, ?_⟩, ⟨d1, d2, d3, d4⟩, ⟨hg, by simp; exact gl⟩, below_setRow hb hg _⟩
  all_goals (simp; omega)

set_option maxHeartbeats 1000000 in
theorem AnsAt.below {w W W' : World} {gb : Nat} {q : Int} {K : Ker} {ns : List Int} (h : AnsAt w gb q K ns W) (hb : Below W.heap.size W W') : AnsAt w gb q K ns W' := by
  obtain ⟨p, hx, ho, hd, hg, hw⟩ := h
  have hs := hb.size
  have ho2 := ho.kep (Kept.of_below hb []) (by simp) (by simp) (by simp) (by simp)
  have b1 := ho2.b1; have b2 := ho2.b2; have b3 := ho2.b3; have b4 := ho2.b4
  exact ⟨p, (hb.block gb hg.2).trans hx, ⟨ho2.l1, ho2.l2, ho2.l3, ho2.l4, ho2.nil1, ho2.m1, ho2.m2, ho2.m3, ho2.m4, ho2.d12, ho2.d13, ho2.d14, ho2.d23, ho2.d24, ho2.d34, ⟨b1.1, by omega⟩, ⟨b2.1, by omega⟩, ⟨b3.1, by omega⟩, ⟨b4.1, by omega⟩⟩, hd, ⟨hg.1, by omega⟩, hw.trans (hb.mono hw.size)⟩
set_option maxHeartbeats 1000000 in
theorem AnsAt.fst {w W : World} {gb : Nat} {q : Int} {K : Ker} {ns : List Int} (h : AnsAt w gb q K ns W) : Below w.heap.size w W := by obtain ⟨_, _, _, _, _, h⟩ := h; exact h

/-- an answer's lists, marked from 1 on -/
def MkR (w : World) (p : Rp) : Prop :=
  Mine w p.g1 (p.g1 + 1) 2 p.A1 p.n1 (fun k => .int .i64 ((1 + k : Nat) : Int)) ∧ Mine w p.g2 (p.g2 + 1) 4 p.A2 p.n2 (fun k => .bool (Go.Proofs.YtkhphkfbjbhgaaaGreat.m3 (1 + p.n1 + k))) ∧ Mine w p.g3 (p.g3 + 1) 88 p.A3 (p.n3 * 4) (fun k => .int .i64 ((1 + p.n1 + p.n2 + k : Nat) : Int)) ∧
    Mine w p.g4 (p.g4 + 1) 65 p.A4 (p.n4 * 3) (fun k => .int .i64 ((1 + p.n1 + p.n2 + p.n3 * 4 + k : Nat) : Int))
set_option maxHeartbeats 1000000 in
theorem MkR.below {w w' : World} {p : Rp} (h : MkR w p) (b : Below w.heap.size w w') (hg : p.g1 < w.heap.size ∧ p.g2 < w.heap.size ∧ p.g3 < w.heap.size ∧ p.g4 < w.heap.size) : MkR w' p :=
  ⟨h.1.below b hg.1, h.2.1.below b hg.2.1, h.2.2.1.below b hg.2.2.1, h.2.2.2.below b hg.2.2.2⟩
end Go.Proofs.YtkhphkfbjbhgaaaGreat
