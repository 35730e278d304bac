/-
  MutedEvents, the model's. No conditions beyond that the events can be read.
-/
import Derived.Maps.AppendAt
import Derived.Test.YtkhphkfbjbhgaaaGreatDrawC3
import Derived.Test.YtkhphkfbjbhgaaaGreatMath9m
namespace Go.Proofs.YtkhphkfbjbhgaaaGreat
open Go.RowKit
set_option maxRecDepth 100000

/-- MutedEvents' answer -/
noncomputable def mut9 (mm : Int) (x : Nat → Int) (n : Nat) (ev kd : Int) : Int × List Int :=
  if ask9 mm n ev ≠ 0 then (ask9 mm n ev, []) else if kd ≠ 1 ∧ kd ≠ 2 then (1, []) else (0, (mu9 x ev kd (new3 mm) n).2.1)
/-- an answer of a code and a list of events of one's own -/
def AnsM (r : Int × List Int) (w : World) (e : Ending) (w' : World) : Prop :=
  ∃ A k c, e = .returned (.agg #[.int .i64 r.1, .slice A k c]) ∧ r.2.length = k * 7 ∧ (A = none → c = 0) ∧ Mine w' w.heap.size w'.heap.size 78 A (k * 7) (fun j => .int .i64 (gi r.2 j)) ∧ Below w.heap.size w w'
set_option maxHeartbeats 1000000 in
theorem ansM_code {q : Int} {r : Int × List Int} {w w' : World} (h : r = (q, [])) (hb : Below w.heap.size w w') : AnsM r w (.returned (.agg #[.int .i64 q, .slice none 0 0])) w' := by
  subst h
  exact ⟨none, 0, 0, rfl, rfl, fun _ => rfl, .inl rfl, hb⟩
set_option maxHeartbeats 1000000 in
theorem or_mineM {t : TypeId} {m : Nat} {w : World} {base n c : Nat} {A : Option Addr} {hs : List Int} (h : OR t m w base A n c hs) {lo : Nat} (hl : lo ≤ base) : Mine w lo w.heap.size t A (n * m) (fun k => .int .i64 (gi hs k)) := by
  rcases Nat.eq_zero_or_pos n with h0 | h0
  · exact .inl (by rw [h0]; omega)
  · obtain ⟨g, rfl, h1, h2⟩ := h.pos h0
    exact .inr ⟨g, 0, rfl, by omega, h2, h.row⟩
set_option maxHeartbeats 1000000 in
theorem finM {w W : World} {base n c : Nat} {A : Option Addr} {ts : List Int} {r : Int × List Int} {u0 u1 : Value} (hr : r = (0, ts)) (h : OR 78 7 W base A n c ts) (hb : w.heap.size ≤ base) (bw : Below w.heap.size w W) (hk : W.heap[w.heap.size]? = some (.cells #[u0, u1] 40 (0, 0))) :
    AnsM r w (.returned (.agg #[.int .i64 0, .slice A n c])) ((W.setCell ⟨w.heap.size, 0, none⟩ (.int .i64 0)).setCell ⟨w.heap.size, 1, none⟩ (.slice A n c)) := by
  subst hr
  have h2 : OR 78 7 ((W.setCell ⟨w.heap.size, 0, none⟩ (.int .i64 0)).setCell ⟨w.heap.size, 1, none⟩ (.slice A n c)) base A n c ts := h.keepAll fun b e => by
    subst e
    obtain ⟨_, hx⟩ := or_blk h
    have hne := blk_ne hx hk (by decide)
    exact (Below.heap_setCell _ ⟨w.heap.size, 1, none⟩ _ _ hne).trans (Below.heap_setCell _ ⟨w.heap.size, 0, none⟩ _ _ hne)
  refine ⟨A, n, c, rfl, h.len, fun e => ?_, or_mineM h2 hb, (bw.setCell (Nat.le_refl _) _).setCell (Nat.le_refl _) _⟩
  subst e
  exact (OR.nil0 h).2

/-- the model's loop: the kernel in its box, the events so far in the box ob -/
structure LoopV (w W : World) (g : Nat) (p : Kp) (K : Ker) (ob : Nat) (A : Option Addr) (n c : Nat) (es : List Int) : Prop where
  lk : LoopK w W g p K
  box : W.heap[ob]? = some (.cells #[.int .i64 0, .slice A n c] 40 (0, 0))
  own : OR 78 7 W w.heap.size A n c es
  lo : w.heap.size ≤ ob
section
variable {w W : World} {g : Nat} {p : Kp} {K : Ker} {ob : Nat} {A : Option Addr} {n c : Nat} {es : List Int}
set_option maxHeartbeats 1000000 in
theorem LoopV.below (J : LoopV w W g p K ob A n c es) {W1 : World} (hb : Below W.heap.size W W1) : LoopV w W1 g p K ob A n c es :=
  ⟨J.lk.below hb, (hb.block _ (Array.getElem?_eq_some_iff.1 J.box).1).trans J.box, J.own.below hb (Nat.le_refl _), J.lo⟩
set_option maxHeartbeats 1000000 in
theorem LoopV.event (J : LoopV w W g p K ob A n c es) {W1 : World} {p' : Kp} {K' : Ker} (kb : KB W1 g p' K') (sk : SK K') (e1 : p'.g1 = p.g1 ∨ W.heap.size ≤ p'.g1 ∧ p'.g1 < W1.heap.size) (e2 : p'.g2 = p.g2) (e3 : p'.g3 = p.g3) (kk : Kept [g, p.g2, p.g3] W W1) : LoopV w W1 g p' K' ob A n c es := by
  obtain ⟨x2, hx2⟩ := mine_blk J.lk.kb.own.m2 (by decide)
  obtain ⟨x3, hx3⟩ := mine_blk J.lk.kb.own.m3 (by decide)
  have nb : ∀ {b : Nat} {cs' : Array Value} {t : TypeId}, W.heap[b]? = some (.cells cs' t (0, 0)) → t ≠ 49 → t ≠ 4 → t ≠ 88 → b ∉ [g, p.g2, p.g3] := fun hb n1 n2 n3 => by
    simp only [List.mem_cons, List.not_mem_nil, or_false, not_or]
    exact ⟨blk_ne hb J.lk.kb.box n1, blk_ne hb hx2 n2, blk_ne hb hx3 n3⟩
  refine ⟨J.lk.event kb sk e1 e2 e3 kk, (kk.2 ob (Array.getElem?_eq_some_iff.1 J.box).1 (nb J.box (by decide) (by decide) (by decide))).trans J.box, J.own.kept kk (fun b e => ?_), J.lo⟩
  have hoc := J.own
  rw [e] at hoc
  obtain ⟨_, hx⟩ := or_blk hoc
  exact nb hx (by decide) (by decide) (by decide)
set_option maxHeartbeats 1000000 in
/-- a block of one's own, later than all these, is turned -/
theorem LoopV.mod {W0 : World} (J0 : LoopV w W0 g p K ob A n c es) (J : LoopV w W g p K ob A n c es) {ge : Nat} (hge : W0.heap.size ≤ ge) {W1 : World} (kk : Kept [ge] W W1) : LoopV w W1 g p K ob A n c es := by
  have l0 := J0.lk.kb.lt; have l1 := J0.lk.kb.lt1 J0.lk.n1; have l2 := J0.lk.kb.lt2
  have lb := (Array.getElem?_eq_some_iff.1 J0.box).1
  have nm : ∀ b, b < W0.heap.size → b ∉ [ge] := fun b hb => by simp only [List.mem_cons, List.not_mem_nil, or_false]; omega
  have zb := J0.lk.bw.size
  refine ⟨⟨J.lk.kb.kept kk (nm _ l0) (nm _ l1) (nm _ l2.1) (nm _ l2.2), J.lk.n1, J.lk.lo, J.lk.bw.trans (kk.below J.lk.bw.size fun b hb => ?_)⟩, (kk.2 ob (Array.getElem?_eq_some_iff.1 J.box).1 (nm _ lb)).trans J.box, J.own.kept kk (fun b e => ?_), J.lo⟩
  · simp only [List.mem_cons, List.not_mem_nil, or_false] at hb
    omega
  · have hoc := J0.own
    rw [e] at hoc
    exact nm _ hoc.lt.2
set_option maxHeartbeats 1000000 in
theorem LoopV.add (J : LoopV w W g p K ob A n c es) (e0 e1 e2 e3 e4 e5 e6 : Int) {V : World} {A' : Option Addr} {cap : Nat} (hown : OR 78 7 V w.heap.size A' (n + 1) cap (es ++ [e0, e1, e2, e3, e4, e5, e6])) (hg : (W.alloc (.cells #[.int .i64 e0, .int .i64 e1, .int .i64 e2, .int .i64 e3, .int .i64 e4, .int .i64 e5, .int .i64 e6] 78)).grownBy V (Value.slice A n c).ownBlock) :
    LoopV w (V.setCell ⟨ob, 1, none⟩ (.slice A' (n + 1) cap)) g p K ob A' (n + 1) cap (es ++ [e0, e1, e2, e3, e4, e5, e6]) := by
  have kb := J.lk.kb
  obtain ⟨x1, hx1⟩ := mine_blk kb.own.m1 (by have := J.lk.n1; omega)
  obtain ⟨x2, hx2⟩ := mine_blk kb.own.m2 (by decide)
  obtain ⟨x3, hx3⟩ := mine_blk kb.own.m3 (by decide)
  have lt : ∀ {b : Nat} {o : Obj}, W.heap[b]? = some o → b < W.heap.size := fun hb' => (Array.getElem?_eq_some_iff.1 hb').1
  have KV : ∀ b, b < W.heap.size → some b ≠ (Value.slice A n c).ownBlock → V.heap[b]? = W.heap[b]? := fun b hb hne => (hg.block b (by simp; omega) hne).trans (Below.heap_alloc _ _ _ hb)
  have S : ∀ b, b ≠ ob → (V.setCell ⟨ob, 1, none⟩ (.slice A' (n + 1) cap)).heap[b]? = V.heap[b]? := fun b hb => Below.heap_setCell _ _ _ _ hb
  have hV : V.heap[ob]? = some (.cells #[.int .i64 0, .slice A n c] 40 (0, 0)) := (KV ob (lt J.box) (own_ne3 J.box (by decide) J.own)).trans J.box
  have k1 := (S _ (blk_ne hx1 J.box (by decide))).trans (KV _ (lt hx1) (own_ne3 hx1 (by decide) J.own))
  have k2 := (S _ (blk_ne hx2 J.box (by decide))).trans (KV _ (lt hx2) (own_ne3 hx2 (by decide) J.own))
  have k3 := (S _ (blk_ne hx3 J.box (by decide))).trans (KV _ (lt hx3) (own_ne3 hx3 (by decide) J.own))
  have kg := (S _ (blk_ne kb.box J.box (by decide))).trans (KV _ (lt kb.box) (own_ne3 kb.box (by decide) J.own))
  have hz : w.heap.size ≤ W.heap.size := J.lk.bw.size
  have bV : Below w.heap.size w V := (J.lk.bw.alloc hz _).grown hg (by simp; omega) (fun b e => by
    have hoc := J.own
    rcases A with _ | ad
    · cases e
    · obtain ⟨b', e1, h1, _⟩ := OR.at_ hoc (by simp)
      injection e1 with e1
      subst e1
      have e2 : b' = b := Option.some.inj e
      omega)
  exact ⟨⟨⟨kg.trans kb.box, kb.own.keepB k1 k2 k3, kb.e1, kb.e2, kb.e3⟩, J.lk.n1, J.lk.lo, bV.setCell (p := ⟨ob, 1, none⟩) J.lo _⟩, heap_setCell_same _ _ 1 _ _ _ hV, hown.keepAll fun b e => S b (by
    subst e
    obtain ⟨_, hx⟩ := or_blk hown
    exact blk_ne hx hV (by decide)), J.lo⟩
end

end Go.Proofs.YtkhphkfbjbhgaaaGreat
