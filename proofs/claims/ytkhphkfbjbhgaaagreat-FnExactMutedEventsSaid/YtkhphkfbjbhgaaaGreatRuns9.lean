/-
  RunsOf, the model's and the program's. No conditions beyond that the events can be read.
-/
import Derived.Maps.AppendAt
import Derived.Test.YtkhphkfbjbhgaaaGreatActs9
import Derived.Test.YtkhphkfbjbhgaaaGreatMath9m
namespace Go.Proofs.YtkhphkfbjbhgaaaGreat
open Go.RowKit
set_option maxRecDepth 100000

/-- the model's loop: the kernel in its box, the answer so far in the box ob -/
structure LoopT (w W : World) (g : Nat) (p : Kp) (K : Ker) (ob : Nat) (A : Option Addr) (n c : Nat) (ts : List Int) : Prop where
  lk : LoopK w W g p K
  box : W.heap[ob]? = some (.cells #[.int .i64 0, .slice A n c] 34 (0, 0))
  own : OR 2 1 W w.heap.size A n c ts
  gp : ∀ b, A = some ⟨b, 0, none⟩ → b ≠ p.g1
  lo : w.heap.size ≤ ob
section
variable {w W : World} {g : Nat} {p : Kp} {K : Ker} {ob : Nat} {A : Option Addr} {n c : Nat} {ts : List Int}
set_option maxHeartbeats 1000000 in
theorem LoopT.below (J : LoopT w W g p K ob A n c ts) {W1 : World} (hb : Below W.heap.size W W1) : LoopT w W1 g p K ob A n c ts :=
  ⟨J.lk.below hb, (hb.block _ (Array.getElem?_eq_some_iff.1 J.box).1).trans J.box, J.own.below hb (Nat.le_refl _), J.gp, J.lo⟩
set_option maxHeartbeats 1000000 in
theorem LoopT.event (J : LoopT w W g p K ob A n c ts) {W1 : World} {p' : Kp} {K' : Ker} (kb : KB W1 g p' K') (sk : SK K') (e1 : p'.g1 = p.g1 ∨ W.heap.size ≤ p'.g1 ∧ p'.g1 < W1.heap.size) (e2 : p'.g2 = p.g2) (e3 : p'.g3 = p.g3) (kk : Kept [g, p.g2, p.g3] W W1) : LoopT w W1 g p' K' ob A n c ts := by
  obtain ⟨x2, hx2⟩ := mine_blk J.lk.kb.own.m2 (by decide)
  obtain ⟨x3, hx3⟩ := mine_blk J.lk.kb.own.m3 (by decide)
  have nb : ∀ {b : Nat} {cs' : Array Value} {t : TypeId}, W.heap[b]? = some (.cells cs' t (0, 0)) → t ≠ 49 → t ≠ 4 → t ≠ 88 → b ∉ [g, p.g2, p.g3] := fun hb n1 n2 n3 => by
    simp only [List.mem_cons, List.not_mem_nil, or_false, not_or]
    exact ⟨blk_ne hb J.lk.kb.box n1, blk_ne hb hx2 n2, blk_ne hb hx3 n3⟩
  refine ⟨J.lk.event kb sk e1 e2 e3 kk, (kk.2 ob (Array.getElem?_eq_some_iff.1 J.box).1 (nb J.box (by decide) (by decide) (by decide))).trans J.box, J.own.kept kk (fun b e => ?_), fun b e => ?_, J.lo⟩
  · have hoc := J.own
    rw [e] at hoc
    obtain ⟨_, hx⟩ := or_blk hoc
    exact nb hx (by decide) (by decide) (by decide)
  · rcases e1 with e1 | e1
    · rw [e1]; exact J.gp b e
    · have hoc := J.own
      rw [e] at hoc
      have := hoc.lt
      omega
set_option maxHeartbeats 1000000 in
theorem LoopT.add (J : LoopT w W g p K ob A n c ts) (q : Int) {V : World} {A' : Option Addr} {cap : Nat} (hown : OR 2 1 V w.heap.size A' (n + 1) cap (ts ++ [q])) (hg : (W.alloc (.cells #[.int .i64 q] 2)).grownBy V (Value.slice A n c).ownBlock)
    (hat : (Value.slice A' (n + 1) cap).ownBlock = (Value.slice A n c).ownBlock ∨ (Value.slice A' (n + 1) cap).ownBlock = some (W.alloc (.cells #[.int .i64 q] 2)).heap.size) :
    LoopT w (V.setCell ⟨ob, 1, none⟩ (.slice A' (n + 1) cap)) g p K ob A' (n + 1) cap (ts ++ [q]) := by
  have kb := J.lk.kb
  obtain ⟨x1, hx1⟩ := mine_blk kb.own.m1 (by have := J.lk.n1; omega)
  obtain ⟨x2, hx2⟩ := mine_blk kb.own.m2 (by decide)
  obtain ⟨x3, hx3⟩ := mine_blk kb.own.m3 (by decide)
  have lt : ∀ {b : Nat} {o : Obj}, W.heap[b]? = some o → b < W.heap.size := fun hb' => (Array.getElem?_eq_some_iff.1 hb').1
  have KV : ∀ b, b < W.heap.size → some b ≠ (Value.slice A n c).ownBlock → V.heap[b]? = W.heap[b]? := fun b hb hne => (hg.block b (by simp; omega) hne).trans (Below.heap_alloc _ _ _ hb)
  have S : ∀ b, b ≠ ob → (V.setCell ⟨ob, 1, none⟩ (.slice A' (n + 1) cap)).heap[b]? = V.heap[b]? := fun b hb => Below.heap_setCell _ _ _ _ hb
  have hV : V.heap[ob]? = some (.cells #[.int .i64 0, .slice A n c] 34 (0, 0)) := (KV ob (lt J.box) (own_ne3 J.box (by decide) J.own)).trans J.box
  have k1 := (S _ (blk_ne hx1 J.box (by decide))).trans (KV _ (lt hx1) (own_ap3 J.own J.gp))
  have k2 := (S _ (blk_ne hx2 J.box (by decide))).trans (KV _ (lt hx2) (own_ne3 hx2 (by decide) J.own))
  have k3 := (S _ (blk_ne hx3 J.box (by decide))).trans (KV _ (lt hx3) (own_ne3 hx3 (by decide) J.own))
  have kg := (S _ (blk_ne kb.box J.box (by decide))).trans (KV _ (lt kb.box) (own_ne3 kb.box (by decide) J.own))
  have hz : w.heap.size ≤ W.heap.size := J.lk.bw.size
  have bV : Below w.heap.size w V := (J.lk.bw.alloc hz _).grown hg (by simp; omega) (fun b e => by
    have hoc := J.own
    rcases A with _ | ad
    · cases e
    · obtain ⟨b', e1, h1, _⟩ := OR.at_ hoc (by simp)
      injection e1 with e1
      subst e1
      have e2 : b' = b := Option.some.inj e
      omega)
  refine ⟨⟨⟨kg.trans kb.box, kb.own.keepB k1 k2 k3, kb.e1, kb.e2, kb.e3⟩, J.lk.n1, J.lk.lo, bV.setCell (p := ⟨ob, 1, none⟩) J.lo _⟩, heap_setCell_same _ _ 1 _ _ _ hV, hown.keepAll fun b e => S b (by
    subst e
    obtain ⟨_, hx⟩ := or_blk hown
    exact blk_ne hx hV (by decide)), fun b e => ?_, J.lo⟩
  subst e
  rcases hat with h1 | h1
  · intro e2
    exact own_ap3 J.own J.gp ((congrArg some e2).symm.trans h1)
  · have e2 : b = (W.alloc (.cells #[.int .i64 q] 2)).heap.size := Option.some.inj h1
    have := lt hx1
    simp at e2
    omega
end

end Go.Proofs.YtkhphkfbjbhgaaaGreat
