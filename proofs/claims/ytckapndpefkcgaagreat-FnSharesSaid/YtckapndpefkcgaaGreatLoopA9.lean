/-
  The program's run inside an audit: what the loop keeps. No program's function is named here.
-/
import Derived.Test.YtckapndpefkcgaaGreatLoop3
set_option maxHeartbeats 1000000
namespace Go.Proofs.YtckapndpefkcgaaGreat
open Go.RowKit
set_option maxRecDepth 100000

theorem set9_block {W : World} {s : Nat} {t : TypeId} {u0 u1 u2 u3 u4 u5 u6 u7 u8 : Value} (h : W.heap[s]? = some (.cells #[u0, u1, u2, u3, u4, u5, u6, u7, u8] t (0, 0))) (v : Value) : (W.setCell ⟨s, 6, none⟩ v).heap[s]? = some (.cells #[u0, u1, u2, u3, u4, u5, v, u7, u8] t (0, 0)) := heap_setCell_same _ _ 6 _ _ _ h
theorem set9_block7 {W : World} {s : Nat} {t : TypeId} {u0 u1 u2 u3 u4 u5 u6 u7 u8 : Value} (h : W.heap[s]? = some (.cells #[u0, u1, u2, u3, u4, u5, u6, u7, u8] t (0, 0))) (v : Value) : (W.setCell ⟨s, 7, none⟩ v).heap[s]? = some (.cells #[u0, u1, u2, u3, u4, u5, u6, v, u8] t (0, 0)) := heap_setCell_same _ _ 7 _ _ _ h
structure Gst where
  T : Option Addr
  n : Nat
  c : Nat
  ts : List Int
  B : Option Nat
  bt : TypeId
  cs : Array Value
structure LoopA (w W : World) (h : Nat) (p : Kp) (K : Ker) (A4 : Option Addr) (k c4 : Nat) (cs : List Int) (A5 : Option Addr) (m c5 : Nat) (ns : List Int) (ev : Int) (G : Gst) : Prop where
  own : KOwn W p K
  n1 : 1 ≤ p.n1
  box : W.heap[h]? = some (.cells #[.int .i64 0, .slice p.A1 p.n1 p.c1, .slice p.A2 4 p.c2, .slice p.A3 4 p.c3, .int .i64 K.tick, .int .i64 K.run, .slice A4 k c4, .slice A5 m c5, .int .i64 ev] 83 (0, 0))
  oc : OR 2 1 W w.heap.size A4 k c4 cs
  on : OR 96 3 W w.heap.size A5 m c5 ns
  ap : ∀ b, A4 = some ⟨b, 0, none⟩ → b ≠ p.g1
  lo : w.heap.size ≤ h ∧ w.heap.size ≤ p.g1 ∧ w.heap.size ≤ p.g2 ∧ w.heap.size ≤ p.g3
  bw : Below w.heap.size w W
  og : OR 2 1 W w.heap.size G.T G.n G.c G.ts
  gp : ∀ b, G.T = some ⟨b, 0, none⟩ → b ≠ p.g1 ∧ A4 ≠ some ⟨b, 0, none⟩
  ob : ∀ b, G.B = some b → w.heap.size ≤ b ∧ W.heap[b]? = some (.cells G.cs G.bt (0, 0)) ∧ (G.bt ≠ 83 ∧ G.bt ≠ 2 ∧ G.bt ≠ 96)
theorem LoopA.below {w W : World} {h : Nat} {p : Kp} {K : Ker} {A4 : Option Addr} {k c4 : Nat} {cs : List Int} {A5 : Option Addr} {m c5 : Nat} {ns : List Int} {ev : Int} {G : Gst} (J : LoopA w W h p K A4 k c4 cs A5 m c5 ns ev G) {W1 : World} (hb : Below W.heap.size W W1) : LoopA w W1 h p K A4 k c4 cs A5 m c5 ns ev G := by
  obtain ⟨x1, hx1⟩ := mine_blk J.own.m1 (by have := J.n1; omega)
  obtain ⟨x2, hx2⟩ := mine_blk J.own.m2 (by decide)
  obtain ⟨x3, hx3⟩ := mine_blk J.own.m3 (by decide)
  have lt : ∀ {b : Nat} {o : Obj}, W.heap[b]? = some o → W1.heap[b]? = W.heap[b]? := fun hb' => hb.block _ (Array.getElem?_eq_some_iff.1 hb').1
  exact ⟨J.own.keepB (lt hx1) (lt hx2) (lt hx3), J.n1, (lt J.box).trans J.box, J.oc.below hb (Nat.le_refl _), J.on.below hb (Nat.le_refl _), J.ap, J.lo, J.bw.trans (hb.mono J.bw.size), J.og.below hb (Nat.le_refl _), J.gp, fun b e => ⟨(J.ob b e).1, (lt (J.ob b e).2.1).trans (J.ob b e).2.1, (J.ob b e).2.2⟩⟩

theorem LoopA.code {w W : World} {h : Nat} {p : Kp} {K : Ker} {A4 : Option Addr} {k c4 : Nat} {cs : List Int} {A5 : Option Addr} {m c5 : Nat} {ns : List Int} {ev : Int} {G : Gst} (J : LoopA w W h p K A4 k c4 cs A5 m c5 ns ev G) (q : Int) {V : World} {A' : Option Addr} {cap : Nat} (hown : OR 2 1 V w.heap.size A' (k + 1) cap (cs ++ [q])) (hg : (W.alloc (.cells #[.int .i64 q] 2)).grownBy V (Value.slice A4 k c4).ownBlock)
    (hat : (Value.slice A' (k + 1) cap).ownBlock = (Value.slice A4 k c4).ownBlock ∨ (Value.slice A' (k + 1) cap).ownBlock = some (W.alloc (.cells #[.int .i64 q] 2)).heap.size) :
    LoopA w (V.setCell ⟨h, 6, none⟩ (.slice A' (k + 1) cap)) h p K A' (k + 1) cap (cs ++ [q]) A5 m c5 ns ev G := by
  obtain ⟨x1, hx1⟩ := mine_blk J.own.m1 (by have := J.n1; omega)
  obtain ⟨x2, hx2⟩ := mine_blk J.own.m2 (by decide)
  obtain ⟨x3, hx3⟩ := mine_blk J.own.m3 (by decide)
  have KV : ∀ b, b < W.heap.size → some b ≠ (Value.slice A4 k c4).ownBlock → V.heap[b]? = W.heap[b]? := fun b hb hne => (hg.block b (by simp; omega) hne).trans (Below.heap_alloc _ _ _ hb)
  have lt : ∀ {b : Nat} {o : Obj}, W.heap[b]? = some o → b < W.heap.size := fun hb' => (Array.getElem?_eq_some_iff.1 hb').1
  have S : ∀ b, b ≠ h → (V.setCell ⟨h, 6, none⟩ (.slice A' (k + 1) cap)).heap[b]? = V.heap[b]? := fun b hb => Below.heap_setCell _ _ _ _ hb
  have hV : V.heap[h]? = some (.cells #[.int .i64 0, .slice p.A1 p.n1 p.c1, .slice p.A2 4 p.c2, .slice p.A3 4 p.c3, .int .i64 K.tick, .int .i64 K.run, .slice A4 k c4, .slice A5 m c5, .int .i64 ev] 83 (0, 0)) := (KV h (lt J.box) (own_ne3 J.box (by decide) J.oc)).trans J.box
  have k1 : (V.setCell ⟨h, 6, none⟩ (.slice A' (k + 1) cap)).heap[p.g1]? = W.heap[p.g1]? := (S _ (blk_ne hx1 J.box (by decide))).trans (KV _ (lt hx1) (own_ap3 J.oc J.ap))
  have k2 : (V.setCell ⟨h, 6, none⟩ (.slice A' (k + 1) cap)).heap[p.g2]? = W.heap[p.g2]? := (S _ (blk_ne hx2 J.box (by decide))).trans (KV _ (lt hx2) (own_ne3 hx2 (by decide) J.oc))
  have k3 : (V.setCell ⟨h, 6, none⟩ (.slice A' (k + 1) cap)).heap[p.g3]? = W.heap[p.g3]? := (S _ (blk_ne hx3 J.box (by decide))).trans (KV _ (lt hx3) (own_ne3 hx3 (by decide) J.oc))
  have other : ∀ b, A5 = some ⟨b, 0, none⟩ → (V.setCell ⟨h, 6, none⟩ (.slice A' (k + 1) cap)).heap[b]? = W.heap[b]? := fun b e => by
    have hoc := J.on
    rw [e] at hoc
    obtain ⟨_, hx⟩ := or_blk hoc
    exact (S _ (blk_ne hx J.box (by decide))).trans (KV _ (lt hx) (own_ne3 hx (by decide) J.oc))
  have mine' : OR 2 1 (V.setCell ⟨h, 6, none⟩ (.slice A' (k + 1) cap)) w.heap.size A' (k + 1) cap (cs ++ [q]) := hown.keepAll fun b e => S b (by
    subst e
    obtain ⟨_, hx⟩ := or_blk hown
    exact blk_ne hx hV (by decide))
  have hz : w.heap.size ≤ W.heap.size := J.bw.size
  have bV : Below w.heap.size w V := (J.bw.alloc hz _).grown hg (by simp; omega) (fun b e => by
    have hoc := J.oc
    rcases A4 with _ | ad
    · cases e
    · obtain ⟨b', e1, h1, _⟩ := OR.at_ hoc (by simp)
      injection e1 with e1
      subst e1
      have e2 : b' = b := Option.some.inj e
      omega)
  refine ⟨J.own.keepB k1 k2 k3, J.n1, set9_block hV _, mine', J.on.keepAll other, ?_, J.lo, bV.setCell (p := ⟨h, 6, none⟩) J.lo.1 _, ?_, ?_, ?_⟩
  · exact fun b e => by
      subst e
      rcases hat with h1 | h1
      · intro e2
        exact own_ap3 J.oc J.ap ((congrArg some e2).symm.trans h1)
      · have e2 : b = (W.alloc (.cells #[.int .i64 q] 2)).heap.size := Option.some.inj h1
        have := lt hx1
        simp at e2
        omega
  · exact J.og.keepAll fun b e => by
      have hoc := J.og
      rw [e] at hoc
      obtain ⟨_, hx⟩ := or_blk hoc
      exact (S _ (blk_ne hx J.box (by decide))).trans (KV _ (lt hx) (own_ap3 J.oc fun b' e' hb => (J.gp b e).2 (by rw [e', hb])))
  · refine fun b e => ⟨(J.gp b e).1, fun e' => ?_⟩
    have hoc := J.og
    rw [e] at hoc
    obtain ⟨_, hx⟩ := or_blk hoc
    subst e'
    rcases hat with h1 | h1
    · exact own_ap3 J.oc (fun b' e' hb => (J.gp b e).2 (by rw [e', hb])) h1
    · have e2 : b = (W.alloc (.cells #[.int .i64 q] 2)).heap.size := Option.some.inj h1
      have := lt hx
      simp at e2
      omega
  · exact fun b e => ⟨(J.ob b e).1, ((S _ (blk_ne (J.ob b e).2.1 J.box (J.ob b e).2.2.1)).trans (KV _ (lt (J.ob b e).2.1) (own_ne3 (J.ob b e).2.1 (J.ob b e).2.2.2.1.symm J.oc))).trans (J.ob b e).2.1, (J.ob b e).2.2⟩
theorem LoopA.notes {w W : World} {h : Nat} {p : Kp} {K : Ker} {A4 : Option Addr} {k c4 : Nat} {cs : List Int} {A5 : Option Addr} {m c5 : Nat} {ns : List Int} {ev : Int} {G : Gst} (J : LoopA w W h p K A4 k c4 cs A5 m c5 ns ev G) {mm : Nat} {more : List Int} {V : World} {A' : Option Addr} {cap : Nat} (hown : OR 96 3 V w.heap.size A' (m + mm) cap (ns ++ more)) (hg : W.grownBy V (Value.slice A5 m c5).ownBlock)
    (hat : (Value.slice A' (m + mm) cap).ownBlock = (Value.slice A5 m c5).ownBlock ∨ (Value.slice A' (m + mm) cap).ownBlock = some W.heap.size) :
    LoopA w (V.setCell ⟨h, 7, none⟩ (.slice A' (m + mm) cap)) h p K A4 k c4 cs A' (m + mm) cap (ns ++ more) ev G := by
  obtain ⟨x1, hx1⟩ := mine_blk J.own.m1 (by have := J.n1; omega)
  obtain ⟨x2, hx2⟩ := mine_blk J.own.m2 (by decide)
  obtain ⟨x3, hx3⟩ := mine_blk J.own.m3 (by decide)
  have KV : ∀ b, b < W.heap.size → some b ≠ (Value.slice A5 m c5).ownBlock → V.heap[b]? = W.heap[b]? := fun b hb hne => hg.block b hb hne
  have lt : ∀ {b : Nat} {o : Obj}, W.heap[b]? = some o → b < W.heap.size := fun hb' => (Array.getElem?_eq_some_iff.1 hb').1
  have S : ∀ b, b ≠ h → (V.setCell ⟨h, 7, none⟩ (.slice A' (m + mm) cap)).heap[b]? = V.heap[b]? := fun b hb => Below.heap_setCell _ _ _ _ hb
  have hV : V.heap[h]? = some (.cells #[.int .i64 0, .slice p.A1 p.n1 p.c1, .slice p.A2 4 p.c2, .slice p.A3 4 p.c3, .int .i64 K.tick, .int .i64 K.run, .slice A4 k c4, .slice A5 m c5, .int .i64 ev] 83 (0, 0)) := (KV h (lt J.box) (own_ne3 J.box (by decide) J.on)).trans J.box
  have k1 : (V.setCell ⟨h, 7, none⟩ (.slice A' (m + mm) cap)).heap[p.g1]? = W.heap[p.g1]? := (S _ (blk_ne hx1 J.box (by decide))).trans (KV _ (lt hx1) (own_ne3 hx1 (by decide) J.on))
  have k2 : (V.setCell ⟨h, 7, none⟩ (.slice A' (m + mm) cap)).heap[p.g2]? = W.heap[p.g2]? := (S _ (blk_ne hx2 J.box (by decide))).trans (KV _ (lt hx2) (own_ne3 hx2 (by decide) J.on))
  have k3 : (V.setCell ⟨h, 7, none⟩ (.slice A' (m + mm) cap)).heap[p.g3]? = W.heap[p.g3]? := (S _ (blk_ne hx3 J.box (by decide))).trans (KV _ (lt hx3) (own_ne3 hx3 (by decide) J.on))
  have other : ∀ b, A4 = some ⟨b, 0, none⟩ → (V.setCell ⟨h, 7, none⟩ (.slice A' (m + mm) cap)).heap[b]? = W.heap[b]? := fun b e => by
    have hoc := J.oc
    rw [e] at hoc
    obtain ⟨_, hx⟩ := or_blk hoc
    exact (S _ (blk_ne hx J.box (by decide))).trans (KV _ (lt hx) (own_ne3 hx (by decide) J.on))
  have mine' : OR 96 3 (V.setCell ⟨h, 7, none⟩ (.slice A' (m + mm) cap)) w.heap.size A' (m + mm) cap (ns ++ more) := hown.keepAll fun b e => S b (by
    subst e
    obtain ⟨_, hx⟩ := or_blk hown
    exact blk_ne hx hV (by decide))
  have hz : w.heap.size ≤ W.heap.size := J.bw.size
  have bV : Below w.heap.size w V := J.bw.grown hg hz (fun b e => by
    have hoc := J.on
    rcases A5 with _ | ad
    · cases e
    · obtain ⟨b', e1, h1, _⟩ := OR.at_ hoc (by simp)
      injection e1 with e1
      subst e1
      have e2 : b' = b := Option.some.inj e
      omega)
  exact ⟨J.own.keepB k1 k2 k3, J.n1, set9_block7 hV _, J.oc.keepAll other, mine', J.ap, J.lo, bV.setCell (p := ⟨h, 7, none⟩) J.lo.1 _, J.og.keepAll (fun b e => by
      have hoc := J.og
      rw [e] at hoc
      obtain ⟨_, hx⟩ := or_blk hoc
      exact (S _ (blk_ne hx J.box (by decide))).trans (KV _ (lt hx) (own_ne3 hx (by decide) J.on))), J.gp, fun b e => ⟨(J.ob b e).1, ((S _ (blk_ne (J.ob b e).2.1 J.box (J.ob b e).2.2.1)).trans (KV _ (lt (J.ob b e).2.1) (own_ne3 (J.ob b e).2.1 (J.ob b e).2.2.2.2.symm J.on))).trans (J.ob b e).2.1, (J.ob b e).2.2⟩⟩

theorem LoopA.setB {w W : World} {h : Nat} {p : Kp} {K : Ker} {A4 : Option Addr} {k c4 : Nat} {cs : List Int} {A5 : Option Addr} {m c5 : Nat} {ns : List Int} {ev : Int} {G : Gst} (J : LoopA w W h p K A4 k c4 cs A5 m c5 ns ev G) {b : Nat} {t : TypeId} {us : Array Value} (hb : w.heap.size ≤ b) (hk : W.heap[b]? = some (.cells us t (0, 0))) (ht : t ≠ 83 ∧ t ≠ 2 ∧ t ≠ 96) : LoopA w W h p K A4 k c4 cs A5 m c5 ns ev ⟨G.T, G.n, G.c, G.ts, some b, t, us⟩ :=
  ⟨J.own, J.n1, J.box, J.oc, J.on, J.ap, J.lo, J.bw, J.og, J.gp, fun b' e => by
    have e : some b = some b' := e
    injection e with e
    subst e
    exact ⟨hb, hk, ht⟩⟩

end Go.Proofs.YtckapndpefkcgaaGreat
